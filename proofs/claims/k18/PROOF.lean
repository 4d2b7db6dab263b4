import PyProof.Rows.All
import Wide.All
import OpenK.AllK
import Wide.FinOn
import Lean
import PyProof.EqAt
import PyProof.EqKinds
import PyProof.TupleCall
import PySem.Challenge.RW_carvebed_k18_whole_loops_and_ways
set_option Elab.async false
set_option linter.all false
set_option maxRecDepth 100000
-- CHANGE: your row's module here, as the last of these rows
/-! THE HAND LAYER, for ints, bools, texts, own classes, LISTS and tuples (index, slices, in, append, pop ..), calls, loops. Paste it whole ahead of your own text; what your proof does not reach may be deleted. -/
namespace L2
open PySem PySem.Spec PyProof.Rows

/-- a key: an int or a str -/
noncomputable abbrev Key := Sum Int Str
noncomputable def keyIs : Key → Value → Bool
  | .inl k, v => Value.isInt k v
  | .inr x, v => Value.isStrOf x v
noncomputable def keyH (w : World) : Key → Int
  | .inl k => hashInt k
  | .inr x => hashStr w x
theorem keyIs_shape : ∀ {k : Key} {v : Value}, keyIs k v = true → (∃ i t, k = Sum.inl i ∧ v = Value.int i t) ∨ (∃ x t, k = Sum.inr x ∧ v = Value.str x t)
  | .inl i, v, h => by
    obtain ⟨t, e⟩ := Value.isInt_shape (k := i) (v := v) h
    exact .inl ⟨i, t, rfl, e⟩
  | .inr x, v, h => by
    obtain ⟨t, e⟩ := Value.isStrOf_shape (x := x) (v := v) h
    exact .inr ⟨x, t, rfl, e⟩
theorem keyIs_int (i : Int) (t : Tok) : keyIs (.inl i) (.int i t) = true := by simp [keyIs, Value.isInt]
theorem keyIs_str (x : Str) (t : Tok) : keyIs (.inr x) (.str x t) = true := by simp [keyIs, Value.isStrOf]
theorem key_ll (a b : Int) : decide ((Sum.inl a : Key) = Sum.inl b) = (a == b) := by
  by_cases e : a = b
  · subst e; simp
  · have h : ¬ (Sum.inl a : Key) = Sum.inl b := fun q => e (Sum.inl.inj q)
    rw [decide_eq_false h]
    exact (beq_eq_false_iff_ne.mpr e).symm
theorem key_rr (a b : Str) : decide ((Sum.inr a : Key) = Sum.inr b) = decide (a = b) := by
  by_cases e : a = b
  · subst e; simp
  · have h : ¬ (Sum.inr a : Key) = Sum.inr b := fun q => e (Sum.inr.inj q)
    rw [decide_eq_false h, decide_eq_false e]
theorem key_lr (a : Int) (b : Str) : decide ((Sum.inl a : Key) = Sum.inr b) = false := decide_eq_false (fun q => nomatch q)
theorem key_rl (a : Str) (b : Int) : decide ((Sum.inr a : Key) = Sum.inl b) = false := decide_eq_false (fun q => nomatch q)

noncomputable def mixKind (prog : Program) (w : World) : PySem.KeyKind prog w Key where
  is := keyIs
  hash := keyH w
  inj := fun v a b ha hb => by
    rcases keyIs_shape ha with ⟨i, t, rfl, rfl⟩ | ⟨x, t, rfl, rfl⟩
    · rcases keyIs_shape hb with ⟨j, u, rfl, e⟩ | ⟨y, u, rfl, e⟩
      · injection e with e1 _; rw [e1]
      · exact nomatch e
    · rcases keyIs_shape hb with ⟨j, u, rfl, e⟩ | ⟨y, u, rfl, e⟩
      · exact nomatch e
      · injection e with e1 _; rw [e1]
  byValue := fun k v h => by
    rcases keyIs_shape h with ⟨i, t, rfl, rfl⟩ | ⟨x, t, rfl, rfl⟩ <;> rfl
  pyHash := fun hv h => by
    rcases keyIs_shape hv with ⟨i, t, rfl, rfl⟩ | ⟨x, t, rfl, rfl⟩
    · exact wpAny_pyHash_int h
    · exact wpAny_pyHash_str h
  eqBool := fun hu hv h => by
    rcases keyIs_shape hu with ⟨i, t, rfl, rfl⟩ | ⟨x, t, rfl, rfl⟩
    · rcases keyIs_shape hv with ⟨j, u, rfl, rfl⟩ | ⟨y, u, rfl, rfl⟩
      · rw [key_ll] at h; exact wpAny_eqBool_int h
      · rw [key_lr] at h; exact SeqAt.EqAt.int_str i t y u _ _ _ _ h
    · rcases keyIs_shape hv with ⟨j, u, rfl, rfl⟩ | ⟨y, u, rfl, rfl⟩
      · rw [key_rl] at h; exact SeqAt.EqAt.str_int x t j u _ _ _ _ h
      · rw [key_rr] at h; exact wpAny_eqBool_str h
  «strs» := fun k x t v h => by
    rcases keyIs_shape h with ⟨i, u, rfl, e⟩ | ⟨y, u, rfl, e⟩
    · exact nomatch e
    · injection e with e1 _
      subst e1
      cases v <;> rfl

theorem mixKind_int (prog : Program) (w : World) (i : Int) (t : Tok) : (mixKind prog w).is (.inl i) (.int i t) = true := keyIs_int i t
theorem mixKind_str (prog : Program) (w : World) (x : Str) (t : Tok) : (mixKind prog w).is (.inr x) (.str x t) = true := keyIs_str x t
end L2

namespace L2
open PySem PySem.Spec PyProof.Rows

/-- a value, without the heap -/
inductive V where
  | non | bl (b : Bool) | int (i : Int) | str (x : Str) | byt (b : Array UInt8) | flt (b : UInt64) | ref (a : Addr) | ty (n : String)
  deriving DecidableEq

noncomputable def RelV : V → Value → Prop
  | .non, u => u = Value.none
  | .bl b, u => u = Value.bool b
  | .int i, u => ∃ t, u = Value.int i t
  | .str x, u => ∃ t, u = Value.str x t
  | .byt b, u => ∃ t, u = Value.bytes b t
  | .flt b, u => ∃ t, u = Value.float b t
  | .ref a, u => u = Value.ref a
  | .ty n, u => u = Value.type n

noncomputable abbrev Vals : List V → List Value → Prop := Paired RelV
theorem Vals.length {xs : List V} {us : List Value} (r : Vals xs us) : xs.length = us.length := Paired.length r
theorem Vals.get : ∀ {xs : List V} {us : List Value} {i : Nat} {x : V}, Vals xs us → xs[i]? = some x → ∃ u, us[i]? = some u ∧ RelV x u
  | _, _, _, _, .nil, e => by simp at e
  | _, _, 0, _, .cons r _, e => by simp at e; subst e; exact ⟨_, rfl, r⟩
  | _, _, i + 1, x, .cons _ t, e => by
    obtain ⟨u, h1, h2⟩ := Vals.get (i := i) (x := x) t (by simpa using e)
    exact ⟨u, by simpa using h1, h2⟩
theorem Vals.set {x : V} {u : Value} (r : RelV x u) : ∀ {xs : List V} {us : List Value} (i : Nat), Vals xs us → Vals (xs.set i x) (us.set i u)
  | _, _, _, .nil => .nil
  | _, _, 0, .cons _ t => .cons r t
  | _, _, i + 1, .cons q t => .cons q (Vals.set r i t)
theorem Vals.append : ∀ {xs ys : List V} {us ws : List Value}, Vals xs us → Vals ys ws → Vals (xs ++ ys) (us ++ ws)
  | _, _, _, _, .nil, s => s
  | _, _, _, _, .cons r t, s => .cons r (Vals.append t s)
theorem Vals.take : ∀ {xs : List V} {us : List Value} (n : Nat), Vals xs us → Vals (xs.take n) (us.take n)
  | _, _, 0, _ => .nil
  | _, _, _ + 1, .nil => .nil
  | _, _, n + 1, .cons r t => .cons r (Vals.take n t)
theorem Vals.drop : ∀ {xs : List V} {us : List Value} (n : Nat), Vals xs us → Vals (xs.drop n) (us.drop n)
  | _, _, 0, r => r
  | _, _, _ + 1, .nil => .nil
  | _, _, n + 1, .cons _ t => Vals.drop n t

noncomputable def RelO : Option V → Option Value → Prop
  | some v, some u => RelV v u
  | none, none => True
  | _, _ => False
noncomputable def KV {κ : Type} : List (κ × V) → List (κ × Value) → Prop := Paired fun (p : κ × V) (q : κ × Value) => p.1 = q.1 ∧ RelV p.2 q.2

/-- a key of a dict (00_mix): an int or a text -/
noncomputable def kV : Key → V
  | .inl i => .int i
  | .inr x => .str x

/-- what stands at a tracked address -/
inductive HO where
  /-- a list -/
  | lst (xs : List V)
  /-- a tuple (never changes) -/
  | tup (xs : List V)
  /-- a dict whose keys are ints and texts; one whose keys are tuples of ints and texts (the empty one is both) -/
  | dK (kvs : List (Key × V)) | dT (kvs : List (List Key × V))
  /-- a set of ints: its members, its size -/
  | set (S : Int → Bool) (n : Nat)
  /-- an instance of the class at C, its dict at dx, its attributes -/
  | ins (C dx : Addr) (fs : List (Str × V))
  /-- the dict of the instance at x -/
  | own (x : Addr)
  /-- the dict of an exception -/
  | xd (fs : List (Str × V))
  /-- a bound method, f of x -/
  | met (f x : Addr)
  /-- a range object lo, lo + 1, .. below hi -/
  | rng (lo hi : Int)
  /-- a thing that is known to the object (the script; a dict while a loop walks it): read, never written while it is so -/
  | frz (o : Obj) (u : HO)
  /-- a code object's table -/
  | tbl (ps : Array Value)
  /-- any other thing, by what is true of its one object (a def of one's own: SetO a S n := HO.ext fun h => ..) -/
  | ext (φ : Heap → Prop)

noncomputable abbrev Hp := Addr → Option HO
noncomputable def upd (H : Hp) (a : Addr) (o : HO) : Hp := fun b => if b = a then some o else H b
theorem upd_same {H : Hp} {a : Addr} {o : HO} : upd H a o a = some o := by unfold upd; rw [if_pos rfl]
theorem upd_ne {H : Hp} {a b : Addr} {o : HO} (h : b ≠ a) : upd H a o b = H b := by unfold upd; rw [if_neg h]
theorem upd_upd {H : Hp} {a : Addr} {o u : HO} : upd (upd H a o) a u = upd H a u := by
  funext b; unfold upd; split <;> rfl
/-- two objects of different content stand apart -/
theorem ne_of {H : Hp} {a b : Addr} {o u : HO} (h : H a = some o) (h' : H b = some u) (d : o ≠ u) : a ≠ b := by
  intro e; subst e; rw [h] at h'; exact d (Option.some.inj h')
theorem ne_of_none {H : Hp} {a b : Addr} {o : HO} (h : H a = some o) (h' : H b = none) : a ≠ b := by
  intro e; subst e; rw [h] at h'; cases h'

section
variable (P : Program) (w : World)
noncomputable def ObjOk (H : Hp) (h : Heap) (a : Addr) : HO → Prop
  | .lst xs => xs.length ≤ sizeLine ∧ ∃ (its : List Value) (n : Nat), Vals xs its ∧ h.get? a = some { cls := .type "list", data := .seq its.toArray n }
  | .tup xs => xs.length ≤ sizeLine ∧ ∃ its : List Value, Vals xs its ∧ IsTup h a its.toArray
  | .dK kvs => kvs.length ≤ sizeLine ∧ (a == sysModules) = false ∧ ∃ vs, KV kvs vs ∧ h.DictOf (mixKind P w) a vs
  | .dT kvs => kvs.length ≤ sizeLine ∧ (a == sysModules) = false ∧ ∃ xs : List (List Key × Addr × Value),
      Paired (fun (p : List Key × V) (q : List Key × Addr × Value) => p.1 = q.1 ∧ H q.2.1 = some (.tup (p.1.map kV)) ∧ RelV p.2 q.2.2) kvs xs ∧
      ∃ o es ep, h.get? a = some o ∧ o.ExactDict ∧ o.data = .dict es ep ∧ es.toList = xs.map (entryOfKey (tupleKind (mixKind P w))) ∧ (xs.map (·.1)).Nodup
  | .set S n => h.SetOf (intKind P w) a S n
  | .ins C dx fs => H dx = some (.own a) ∧ fs.length ≤ 1000 ∧ dx ≠ a ∧ h.get? a = some (PySem.W.instObj C dx) ∧
      ∃ mA, h.Ns1 dx mA ∧ (∀ f, RelO (fs.lookup f) (mA f)) ∧ PySem.Within mA (fs.map (·.1))
  | .own _ => ∃ o, h.get? a = some o
  | .xd fs => ∃ mA, h.Ns1 a mA ∧ ∀ f, RelO (fs.lookup f) (mA f)
  | .rng lo hi => ∃ t u v, h.get? a = some { cls := .type "range", data := .fields #[.int lo t, .int hi u, .int 1 v] }
  | .frz o u => h.get? a = some o ∧ ObjOk H h a u
  | .tbl ps => h.get? a = some { cls := .none, data := .fields ps }
  | .met f x => h.get? a = some (PySem.W.methodObj (.ref f) (.ref x))
  | .ext φ => φ h ∧ (∃ o, h.get? a = some o) ∧ ∀ h1 h2 : Heap, φ h1 → (∀ o, h1.get? a = some o → h2.get? a = some o) → φ h2
/-- the abstract heap is held -/
noncomputable def HOk (H : Hp) (h : Heap) : Prop := ∀ a o, H a = some o → ObjOk P w H h a o
end

section
variable {P : Program} {w : World} {H H' : Hp} {h h' : Heap} {a : Addr} {o : HO}
theorem ObjOk.lt (x : ObjOk P w H h a o) : a < h.objs.size := by
  cases o with
  | lst xs => obtain ⟨_, _, _, _, e⟩ := x; exact Heap.lt_size e
  | tup xs => obtain ⟨_, _, _, p⟩ := x; exact p.lt
  | dK kvs => obtain ⟨_, _, _, _, o, _, _, e, _⟩ := x; exact Heap.lt_size e
  | dT kvs => obtain ⟨_, _, _, _, o, _, _, e, _⟩ := x; exact Heap.lt_size e
  | set S n => obtain ⟨o, _, _, _, e, _⟩ := x; exact Heap.lt_size e
  | ins C dx fs => obtain ⟨_, _, _, e, _⟩ := x; exact Heap.lt_size e
  | own y => obtain ⟨_, e⟩ := x; exact Heap.lt_size e
  | xd fs => obtain ⟨_, ⟨_, _, _, e, _⟩, _⟩ := x; exact Heap.lt_size e
  | rng lo hi => obtain ⟨_, _, _, e⟩ := x; exact Heap.lt_size e
  | frz ob u => obtain ⟨e, _⟩ := x; exact Heap.lt_size e
  | tbl ps => exact Heap.lt_size (show h.get? a = some _ from x)
  | met f y => exact Heap.lt_size (show h.get? a = some _ from x)
  | ext φ => obtain ⟨_, ⟨_, e⟩, _⟩ := x; exact Heap.lt_size e
theorem Paired.mapP {α β : Type} {F G : α → β → Prop} : ∀ {l₁ : List α} {l₂ : List β}, Paired F l₁ l₂ → (∀ a b, F a b → G a b) → Paired G l₁ l₂
  | _, _, .nil, _ => .nil
  | _, _, .cons r t, f => .cons (f _ _ r) (Paired.mapP t f)
/-- what an object's description leans on: its own object, its own dict, the tuples -/
theorem ObjOk.stay (x : ObjOk P w H h a o) (k : ∀ b u, (b = a ∨ H b = some (.own a)) → h.get? b = some u → h'.get? b = some u)
    (ho : ∀ b, H b = some (.own a) → H' b = some (.own a)) (ht : ∀ b xs, H b = some (.tup xs) → H' b = some (.tup xs)) : ObjOk P w H' h' a o := by
  induction o with
  | lst xs => obtain ⟨z, its, n, r, e⟩ := x; exact ⟨z, its, n, r, k _ _ (.inl rfl) e⟩
  | tup xs => obtain ⟨z, its, r, ob, e, c⟩ := x; exact ⟨z, its, r, ob, k _ _ (.inl rfl) e, c⟩
  | dK kvs => obtain ⟨z, y, vs, r, ob, es, ep, e, c⟩ := x; exact ⟨z, y, vs, r, ob, es, ep, k _ _ (.inl rfl) e, c⟩
  | dT kvs =>
    obtain ⟨z, y, xs, r, ob, es, ep, e, c⟩ := x
    exact ⟨z, y, xs, Paired.mapP r fun p q z => ⟨z.1, ht _ _ z.2.1, z.2.2⟩, ob, es, ep, k _ _ (.inl rfl) e, c⟩
  | set S n => obtain ⟨ob, es, ep, t, e, c⟩ := x; exact ⟨ob, es, ep, t, k _ _ (.inl rfl) e, c⟩
  | ins C dx fs =>
    obtain ⟨d, z, ne, e, mA, ⟨od, es, ep, e2, c⟩, r⟩ := x
    exact ⟨ho _ d, z, ne, k _ _ (.inl rfl) e, mA, ⟨od, es, ep, k _ _ (.inr d) e2, c⟩, r⟩
  | own y => obtain ⟨ob, e⟩ := x; exact ⟨ob, k _ _ (.inl rfl) e⟩
  | xd fs => obtain ⟨mA, ⟨od, es, ep, e, c⟩, r⟩ := x; exact ⟨mA, ⟨od, es, ep, k _ _ (.inl rfl) e, c⟩, r⟩
  | rng lo hi => obtain ⟨t, u, v, e⟩ := x; exact ⟨t, u, v, k _ _ (.inl rfl) e⟩
  | frz ob u ih => obtain ⟨e, q⟩ := x; exact ⟨k _ _ (.inl rfl) e, ih q⟩
  | tbl ps =>
    have e : h.get? a = some { cls := .none, data := .fields ps } := x
    show h'.get? a = some { cls := .none, data := .fields ps }
    exact k a _ (.inl rfl) e
  | met f y =>
    have e : h.get? a = some (PySem.W.methodObj (.ref f) (.ref y)) := x
    show h'.get? a = some (PySem.W.methodObj (.ref f) (.ref y))
    exact k a _ (.inl rfl) e
  | ext φ => obtain ⟨p, ⟨o, e⟩, st⟩ := x; exact ⟨st _ _ p fun o q => k _ _ (.inl rfl) q, ⟨o, k _ _ (.inl rfl) e⟩, st⟩
theorem HOk.lt (x : HOk P w H h) (e : H a = some o) : a < h.objs.size := (x a o e).lt
theorem HOk.fresh (x : HOk P w H h) (e : h.objs.size ≤ a) : H a = none := by
  cases q : H a with
  | none => rfl
  | some u => exact absurd (Nat.lt_of_lt_of_le (x.lt q) e) (Nat.lt_irrefl _)
/-- every object of the heap is kept -/
theorem HOk.kept (x : HOk P w H h) (k : ∀ b u, h.get? b = some u → h'.get? b = some u) : HOk P w H h' := fun a o e =>
  (x a o e).stay (fun b u _ q => k b u q) (fun _ q => q) fun _ _ q => q
/-- a new object is laid and tracked -/
theorem HOk.laid (x : HOk P w H h) (k : ∀ b u, h.get? b = some u → h'.get? b = some u) (hp : h.objs.size ≤ a) (new : ObjOk P w (upd H a o) h' a o) : HOk P w (upd H a o) h' := fun b u e => by
  have hn := x.fresh hp
  by_cases hb : b = a
  · subst hb; rw [upd_same] at e; cases e; exact new
  · rw [upd_ne hb] at e
    exact (x b u e).stay (fun c v _ q => k c v q) (fun c q => by rw [upd_ne (ne_of_none q hn)]; exact q) fun c xs q => by rw [upd_ne (ne_of_none q hn)]; exact q
end

/-- what may be read as u: it is u, or a known u -/
noncomputable def Rd (H : Hp) (a : Addr) (u : HO) : Prop := H a = some u ∨ ∃ o, H a = some (.frz o u)
theorem Rd.ok {P : Program} {w : World} {H : Hp} {h : Heap} {a : Addr} {u : HO} (r : Rd H a u) (x : HOk P w H h) : ObjOk P w H h a u := by
  rcases r with r | ⟨o, r⟩
  · exact x a u r
  · obtain ⟨_, q⟩ := x a _ r
    exact q
/-- what may be written -/
noncomputable def Mut : Option HO → Prop
  | some (.lst _) => True
  | some (.dK _) => True
  | some (.dT _) => True
  | some (.set _ _) => True
  | some (.ins _ _ _) => True
  | some (.ext _) => True
  | _ => False
section
variable {P : Program} {w : World} {H : Hp} {h h' : Heap} {x e : Addr} {o' : HO}
/-- the object at e is changed: x itself, or the dict of the instance x -/
theorem HOk.write (ok : HOk P w H h) (mu : Mut (H x)) (he : e = x ∨ H e = some (.own x)) (k : ∀ b u, b ≠ e → h.get? b = some u → h'.get? b = some u) (heo : ∃ u, h'.get? e = some u)
    (new : ObjOk P w (upd H x o') h' x o') : HOk P w (upd H x o') h' := fun b u q => by
  have nown : ∀ c y, H c = some (.own y) → c ≠ x := fun c y r z => by subst z; rw [r] at mu; exact mu
  have ntup : ∀ c xs, H c = some (.tup xs) → c ≠ x := fun c xs r z => by subst z; rw [r] at mu; exact mu
  by_cases hb : b = x
  · subst hb; rw [upd_same] at q; cases q; exact new
  · rw [upd_ne hb] at q
    by_cases hbe : b = e
    · have q' : H b = some (.own x) := by
        rcases he with z | z
        · exact absurd (hbe.trans z) hb
        · rw [hbe]; exact z
      rw [q] at q'; cases q'
      obtain ⟨v, hv⟩ := heo
      exact ⟨v, by rw [hbe]; exact hv⟩
    · refine (ok b u q).stay (fun c v hc r => k c v ?_ r) (fun c r => by rw [upd_ne (nown c b r)]; exact r) fun c xs r => by rw [upd_ne (ntup c xs r)]; exact r
      rcases hc with rfl | hc
      · exact hbe
      · rintro rfl
        rcases he with z | z
        · exact nown c b hc z
        · rw [hc] at z; cases z; exact hb rfl
end

/-! ### kept unless tracked; of the frames at fs (the callers') the slots may change (an exception that passes writes there); of the records at ex (iterators) nothing is said -/
structure Un (fs ex : List Addr) (H H' : Hp) (h h' : Heap) : Prop where
  keep : ∀ b o, h.get? b = some o → H b = none → b ∉ fs → b ∉ ex → h'.get? b = some o
  slot : ∀ b o, h.get? b = some o → H b = none → b ∈ fs → b ∉ ex → ∃ sl, h'.get? b = some { o with slots := sl }
  free : ∀ b o, h.get? b = some o → H b = none → b ∉ ex → H' b = none
  there : ∀ b o, h.get? b = some o → b ∉ ex → ∃ o', h'.get? b = some o'
  tups : ∀ b xs, H b = some (.tup xs) → H' b = some (.tup xs)
  frzs : ∀ b o u, H b = some (.frz o u) → H' b = some (.frz o u)
  tbls : ∀ b ps, H b = some (.tbl ps) → ∃ more, H' b = some (.tbl (ps ++ more))
section
variable {fs fs' ex ex' : List Addr} {H H1 H2 : Hp} {h h1 h2 h' : Heap} {a x e : Addr} {o : HO}
theorem Un.any (u : Un fs ex H H1 h h1) {b : Addr} {ob : Obj} (q : h.get? b = some ob) (n : H b = none) (hx : b ∉ ex) : ∃ sl, h1.get? b = some { ob with slots := sl } := by
  by_cases hb : b ∈ fs
  · exact u.slot b ob q n hb hx
  · exact ⟨ob.slots, u.keep b ob q n hb hx⟩
theorem Un.kept (k : ∀ b u, h.get? b = some u → h'.get? b = some u) : Un fs ex H H h h' :=
  ⟨fun b ob q _ _ _ => k b ob q, fun b ob q _ _ _ => ⟨ob.slots, k b ob q⟩, fun _ _ _ n _ => n, fun b ob q _ => ⟨ob, k b ob q⟩, fun _ _ q => q, fun _ _ _ q => q, fun _ ps q => ⟨#[], by rw [q]; simp⟩⟩
theorem Un.refl : Un fs ex H H h h := Un.kept fun _ _ q => q
theorem Un.laid (k : ∀ b u, h.get? b = some u → h'.get? b = some u) (hp : h.objs.size ≤ a) (hn : H a = none) : Un fs ex H (upd H a o) h h' where
  keep := fun b u q _ _ _ => k b u q
  slot := fun b u q _ _ _ => ⟨u.slots, k b u q⟩
  free := fun b u q n _ => by rw [upd_ne (Nat.ne_of_lt (Nat.lt_of_lt_of_le (Heap.lt_size q) hp))]; exact n
  there := fun b u q _ => ⟨u, k b u q⟩
  tups := fun b xs q => by rw [upd_ne (ne_of_none q hn)]; exact q
  frzs := fun b u xs q => by rw [upd_ne (ne_of_none q hn)]; exact q
  tbls := fun b ps q => ⟨#[], by rw [upd_ne (ne_of_none q hn), q]; simp⟩
theorem Un.write (mu : Mut (H x)) (he : e = x ∨ H e = some (.own x)) (k : ∀ b u, b ≠ e → h.get? b = some u → h'.get? b = some u) (heo : ∃ u, h'.get? e = some u) : Un fs ex H (upd H x o) h h' := by
  have hx : ∀ b, H b = none → b ≠ x := fun b n z => by subst z; rw [n] at mu; exact mu
  have hb : ∀ b, H b = none → b ≠ e := fun b n z => by
    subst z
    rcases he with r | r
    · exact hx b n r
    · rw [n] at r; cases r
  have hm : ∀ b u, H b = some u → ¬ Mut (some u) → b ≠ x := fun b u q nm z => by subst z; rw [q] at mu; exact nm mu
  refine ⟨fun b u q n _ _ => k b u (hb b n) q, fun b u q n _ _ => ⟨u.slots, k b u (hb b n) q⟩, fun b u q n _ => by rw [upd_ne (hx b n)]; exact n, fun b u q _ => ?_,
    fun b xs q => by rw [upd_ne (hm b _ q fun z => z)]; exact q, fun b u xs q => by rw [upd_ne (hm b _ q fun z => z)]; exact q, fun b ps q => ⟨#[], by rw [upd_ne (hm b _ q fun z => z), q]; simp⟩⟩
  by_cases hbe : b = e
  · subst hbe; exact heo
  · exact ⟨u, k b u hbe q⟩
end

/-! ### the heap without what is tracked -/
noncomputable def trk (h : Heap) (H : Hp) : List Addr := (List.range h.objs.size).filter fun a => (H a).isSome
noncomputable def hidT (h : Heap) (H : Hp) : Heap := PySem.W.hideAll h (trk h H)
theorem hidT_size (h : Heap) (H : Hp) : (hidT h H).objs.size = h.objs.size := PySem.W.hideAll_size _ _
theorem hidT_get {h : Heap} {H : Hp} {b : Addr} {o : Obj} (e : h.get? b = some o) (n : H b = none) : (hidT h H).get? b = some o :=
  PySem.W.hideAll_get _ e fun hm => by
    have q : (H b).isSome = true := (List.mem_filter.mp hm).2
    rw [n] at q; simp at q
theorem of_hidT {h : Heap} {H : Hp} {b : Addr} {o : Obj} (e : (hidT h H).get? b = some o) : h.get? b = some o ∧ H b = none := by
  have e' : h.get? b = some o := PySem.W.of_hideAll (trk h H) e
  refine ⟨e', ?_⟩
  cases q : H b with
  | none => rfl
  | some x =>
    have hm : b ∈ trk h H := List.mem_filter.mpr ⟨List.mem_range.mpr (Heap.lt_size e'), by simp [q]⟩
    have z : (hidT h H).get? b = none := PySem.W.hideAll_none (trk h H) hm
    rw [z] at e; cases e

/-! ### OpenK's ledger, filled with every new object but one -/
end L2

namespace L2
open PySem PySem.Spec PyProof.Rows

/-- the module's facts, over the base: the heap at the law's entry without what is tracked there -/
structure Mod (K : PySem.W.Frag) (mg : Str → Option Value) (base : Heap) : Prop where
  kin : K.In base
  glob : base.Ns mainGlobals mg
  blt : ∃ mb, base.Ns builtinsNs mb ∧ ∀ x : Str, x ≠ "__name__" → mb x = bootBuiltins x
  nolimit : base.NoLimit

/-- the context: a def's body (or a comprehension's block) running. base: fixed through the whole law; s₀, H₀: the entry; outer: the frames whose slots others may change (a def's callers); stack: all frames that run;
   ex: iterators that were made ahead of the entry and are walked here (a comprehension's); fn: the names whose cells were made at the entry (a def: all; a comprehension's block: its own); calm: not within an except suite; pn: pins that every state bears; xe: what is wanted of an exception that leaves the code -/
structure Cx where
  prog : Program
  w : World
  K : PySem.W.Frag
  mg : Str → Option Value
  base : Heap
  A : Around
  N : List Str
  s₀ : Shared
  H₀ : Hp
  env : Env
  outer : List Env
  stack : List Env
  ex : List Addr
  fn : Str → Bool
  calm : Bool
  pn : List (Addr × Obj)
  xe : Value → Shared → Prop
/-- the callers' frames -/
noncomputable def frs (l : List Env) : List Addr := l.filterMap (·.frame)
noncomputable abbrev Cx.fs (X : Cx) : List Addr := frs X.outer

noncomputable def Vis (sc : Scope) (x : Str) : Prop := sc.names.lookup x = some .local ∨ sc.names.lookup x = some .cell ∨ sc.names.lookup x = some .free
noncomputable def Loc (sc : Scope) (x : Str) : Prop := sc.names.lookup x = some .local ∨ sc.names.lookup x = some .cell
noncomputable def Look (env : Env) (h : Heap) (m : Str → Option Value) (x : Str) (u : Value) : Prop :=
  (env.kindOf x = some .local ∧ m x = some u) ∨ ((env.kindOf x = some .cell ∨ env.kindOf x = some .free) ∧ ∃ c, env.cells.lookup x = some c ∧ h.IsCell c (some u))

structure Cx.Ok (X : Cx) : Prop where
  mod : Mod X.K X.mg X.base
  kind : X.env.scope.kind = .function
  glob : X.env.globals = mainGlobals
  blt : X.env.builtins = builtinsNs
  above : X.s₀.heap.objs.size ≤ X.env.locals
  inj : ∀ x y c, X.env.cells.lookup x = some c → X.env.cells.lookup y = some c → x = y
  has : ∀ x, (X.env.kindOf x = some .cell ∨ X.env.kindOf x = some .free) → ∃ c, X.env.cells.lookup x = some c
  cab : ∀ x c, X.fn x = true → X.env.cells.lookup x = some c → X.s₀.heap.objs.size ≤ c
  hd : X.calm = true → X.A.handled = none
  frames : X.A.frames = some X.stack
  stk : X.stack = X.outer ∨ (X.stack = X.env :: X.outer ∧ X.env.frame = some X.env.locals)
  exf : ∀ b ∈ X.ex, b ≠ X.env.locals ∧ ∀ x c, X.env.cells.lookup x = some c → c ≠ b
  bs : ∀ b o, X.base.get? b = some o → X.s₀.heap.get? b = some o ∧ X.H₀ b = none
  bsz : X.base.objs.size ≤ X.s₀.heap.objs.size
  noex : ∀ b o, X.base.get? b = some o → b ∉ X.ex
  exfs : ∀ b ∈ X.ex, b ∉ X.fs
  funs : X.s₀.heap.FunFrames X.base X.outer
  frf : ∀ b ∈ X.fs, X.H₀ b = none

structure Inv (X : Cx) (pins : List (Addr × Obj)) (σ : List (Option V)) (H : Hp) (s : Shared) : Prop where
  ok : X.Ok
  os : s.os = X.s₀.os
  bare : AllBare s.gens
  base : Un X.fs X.ex X.H₀ H X.s₀.heap s.heap
  loc : ∃ m, s.heap.Ns X.env.locals m ∧ ∀ (i : Nat) (x : Str) (v : V), X.N[i]? = some x → σ[i]? = some (some v) → Vis X.env.scope x → ∃ u, RelV v u ∧ Look X.env s.heap m x u
  cell : ∀ x c, X.env.cells.lookup x = some c → ∃ v, s.heap.IsCell c v
  free : H X.env.locals = none
  freeC : ∀ x c, X.env.cells.lookup x = some c → H c = none
  pin : ∀ p ∈ X.pn ++ pins, s.heap.get? p.1 = some p.2 ∧ H p.1 = none ∧ p.1 ≠ X.env.locals ∧ p.1 ∉ X.fs ∧ ∀ v, p.2.data ≠ .cell v
  hok : HOk X.prog X.w H s.heap
  len : σ.length = X.N.length

section
variable {X : Cx} {pins : List (Addr × Obj)} {σ : List (Option V)} {H H' : Hp} {s : Shared} {h' : Heap}

theorem Cx.Ok.nofr (ok : X.Ok) {b : Addr} {o : Obj} (e : X.base.get? b = some o) : b ∉ X.fs := fun hb => by
  have := (ok.funs.mem hb).1
  rw [e] at this; cases this
theorem Inv.bs (I : Inv X pins σ H s) : ∀ b o, X.base.get? b = some o → s.heap.get? b = some o ∧ H b = none := fun b o e =>
  ⟨I.base.keep b o (I.ok.bs b o e).1 (I.ok.bs b o e).2 (I.ok.nofr e) (I.ok.noex b o e), I.base.free b o (I.ok.bs b o e).1 (I.ok.bs b o e).2 (I.ok.noex b o e)⟩
theorem Inv.bk (I : Inv X pins σ H s) : ∀ b o, X.base.get? b = some o → s.heap.get? b = some o := fun b o e => (I.bs b o e).1
theorem Inv.mod (I : Inv X pins σ H s) : Mod X.K X.mg X.base := I.ok.mod
theorem Inv.kIn (I : Inv X pins σ H s) : X.K.In s.heap := I.ok.mod.kin.keeps I.bk
theorem Inv.lt (I : Inv X pins σ H s) : X.env.locals < s.heap.objs.size := let ⟨_, hn, _⟩ := I.loc; hn.lt
theorem Inv.sz (I : Inv X pins σ H s) : X.s₀.heap.objs.size ≤ s.heap.objs.size := Nat.le_trans I.ok.above (Nat.le_of_lt I.lt)
theorem Inv.nofs (I : Inv X pins σ H s) {a : Addr} (h : s.heap.objs.size ≤ a) : a ∉ X.fs := fun hb => by
  obtain ⟨_, o, ho, _⟩ := I.ok.funs.mem hb
  exact absurd (Nat.lt_of_lt_of_le (Heap.lt_size ho) (Nat.le_trans I.sz h)) (Nat.lt_irrefl _)
theorem Inv.cne (I : Inv X pins σ H s) : ∀ x c, X.env.cells.lookup x = some c → c ≠ X.env.locals := fun x c e z => by
  obtain ⟨v, o, ho, hd⟩ := I.cell x c e
  obtain ⟨m, ⟨o', es, ep, ho', hd', _⟩, _⟩ := I.loc
  rw [z, ho'] at ho; cases ho; rw [hd'] at hd; cases hd
theorem Inv.funs (I : Inv X pins σ H s) : s.heap.FunFrames X.base X.outer := by
  have all : ∀ (l : List Env), (∀ b ∈ frs l, b ∈ X.fs) → X.s₀.heap.FunFrames X.base l → s.heap.FunFrames X.base l := by
    intro l
    induction l with
    | nil => intro _ _; trivial
    | cons env r ih =>
      intro hs hl
      obtain ⟨hk, ⟨L, o, hf, hn, ho, hd⟩, hr⟩ := hl
      have hL : L ∈ X.fs := hs L (by unfold frs; rw [List.filterMap_cons, hf]; exact List.mem_cons_self)
      obtain ⟨sl, e⟩ := I.base.slot L o ho (I.ok.frf L hL) hL fun z => I.ok.exfs L z hL
      exact ⟨hk, ⟨L, _, hf, hn, e, hd⟩, ih (fun b hb => hs b (by unfold frs; rw [List.filterMap_cons, hf]; exact List.mem_cons_of_mem _ hb)) hr⟩
  exact all X.outer (fun _ hb => hb) I.ok.funs

/-- the frames that run, for a call -/
theorem Inv.stack (I : Inv X pins σ H s) : s.heap.FunFrames X.base X.stack := by
  rcases I.ok.stk with e | ⟨e, hf⟩
  · rw [e]; exact I.funs
  · rw [e]
    obtain ⟨m, hn, _⟩ := I.loc
    refine .cons (by rw [I.ok.kind]; decide) hf hn ?_ I.funs
    exact Heap.get?_none_of_le (Nat.le_trans I.ok.bsz I.ok.above)
theorem Inv.stkSub (I : Inv X pins σ H s) : ∀ b ∈ frs X.stack, b ∈ X.env.locals :: X.fs := fun b hb => by
  rcases I.ok.stk with e | ⟨e, hf⟩
  · rw [e] at hb; exact List.mem_cons_of_mem _ hb
  · rw [e] at hb
    unfold frs at hb
    rw [List.filterMap_cons, hf] at hb
    exact hb
theorem Inv.stkFree (I : Inv X pins σ H s) : ∀ b ∈ frs X.stack, H b = none := fun b hb => by
  rcases List.mem_cons.mp (I.stkSub b hb) with e | hb
  · rw [e]; exact I.free
  · obtain ⟨_, o, ho, _⟩ := I.ok.funs.mem hb
    exact I.base.free b o ho (I.ok.frf b hb) fun z => I.ok.exfs b z hb

/-- THE STEP: the untracked objects but the frame and the records at ch are kept (the callers' frames up to slots), the frame's map is kept, the new abstract heap is held -/
theorem Inv.step {g' : Array GenState} {t' : Nat} {d' : Drawn} {ch : List Addr} (I : Inv X pins σ H s)
    (hch : ∀ b ∈ ch, (b ∈ X.ex ∨ X.s₀.heap.objs.size ≤ b) ∧ b ≠ X.env.locals ∧ (∀ x c, X.env.cells.lookup x = some c → c ≠ b) ∧ ∀ p ∈ X.pn ++ pins, p.1 ≠ b)
    (keep : ∀ b o, b ≠ X.env.locals → b ∉ X.fs → b ∉ ch → s.heap.get? b = some o → H b = none → h'.get? b = some o)
    (slot : ∀ b o, b ≠ X.env.locals → b ∈ X.fs → b ∉ ch → s.heap.get? b = some o → H b = none → ∃ sl, h'.get? b = some { o with slots := sl }) (free : ∀ b o, b ∉ ch → s.heap.get? b = some o → H b = none → H' b = none)
    (there : ∀ b o, b ∉ ch → s.heap.get? b = some o → ∃ o', h'.get? b = some o')
    (tups : ∀ b xs, H b = some (.tup xs) → H' b = some (.tup xs)) (frzs : ∀ b o u, H b = some (.frz o u) → H' b = some (.frz o u)) (tbls : ∀ b ps, H b = some (.tbl ps) → ∃ more, H' b = some (.tbl (ps ++ more)))
    (ns : ∀ m, s.heap.Ns X.env.locals m → h'.Ns X.env.locals m) (hok : HOk X.prog X.w H' h') (hg : AllBare g') :
    Inv X pins σ H' { s with heap := h', gens := g', drawn := d', toks := t' } := by
  have neL : ∀ b o, X.s₀.heap.get? b = some o → b ≠ X.env.locals := fun b o e => Nat.ne_of_lt (Nat.lt_of_lt_of_le (Heap.lt_size e) I.ok.above)
  have neC : ∀ b o, X.s₀.heap.get? b = some o → b ∉ X.ex → b ∉ ch := fun b o e hx hb => by
    rcases (hch b hb).1 with z | z
    · exact hx z
    · exact absurd (Nat.lt_of_lt_of_le (Heap.lt_size e) z) (Nat.lt_irrefl _)
  have cellK : ∀ x c, X.env.cells.lookup x = some c → ∀ v, s.heap.IsCell c v → h'.IsCell c v := fun x c e v ⟨o, ho, hd⟩ => by
    have nch : c ∉ ch := fun z => (hch c z).2.2.1 x c e rfl
    by_cases hc : c ∈ X.fs
    · obtain ⟨sl, q⟩ := slot c o (I.cne x c e) hc nch ho (I.freeC x c e)
      exact ⟨_, q, hd⟩
    · exact ⟨o, keep c o (I.cne x c e) hc nch ho (I.freeC x c e), hd⟩
  refine ⟨I.ok, I.os, hg, ⟨fun b o e n hb hx => ?_, fun b o e n hb hx => ?_, fun b o e n hx => ?_, fun b o e hx => ?_, fun b xs e => tups b xs (I.base.tups b xs e), fun b o xs e => frzs b o xs (I.base.frzs b o xs e), fun b ps e => ?_⟩, ?_, fun x c e => ?_, ?_, fun x c e => ?_, fun p hp => ?_, hok, I.len⟩
  · exact keep b o (neL b o e) hb (neC b o e hx) (I.base.keep b o e n hb hx) (I.base.free b o e n hx)
  · obtain ⟨sl, e1⟩ := I.base.slot b o e n hb hx
    obtain ⟨sl', e2⟩ := slot b _ (neL b o e) hb (neC b o e hx) e1 (I.base.free b o e n hx)
    exact ⟨sl', e2⟩
  · obtain ⟨o', e1⟩ := I.base.there b o e hx
    exact free b o' (neC b o e hx) e1 (I.base.free b o e n hx)
  · obtain ⟨o', e1⟩ := I.base.there b o e hx
    exact there b o' (neC b o e hx) e1
  · obtain ⟨m1, e1⟩ := I.base.tbls b ps e
    obtain ⟨m2, e2⟩ := tbls b _ e1
    exact ⟨m1 ++ m2, by rw [e2, Array.append_assoc]⟩
  · obtain ⟨m, hn, hl⟩ := I.loc
    refine ⟨m, ns m hn, fun i x v e1 e2 e3 => ?_⟩
    obtain ⟨u, r, l⟩ := hl i x v e1 e2 e3
    refine ⟨u, r, ?_⟩
    rcases l with l | ⟨k, c, e, z⟩
    · exact .inl l
    · exact .inr ⟨k, c, e, cellK x c e _ z⟩
  · obtain ⟨v, z⟩ := I.cell x c e
    exact ⟨v, cellK x c e v z⟩
  · obtain ⟨m, ⟨o, _, _, ho, _⟩, _⟩ := I.loc
    exact free _ o (fun z => (hch _ z).2.1 rfl) ho I.free
  · obtain ⟨v, o, ho, hd⟩ := I.cell x c e
    exact free c o (fun z => (hch c z).2.2.1 x c e rfl) ho (I.freeC x c e)
  · obtain ⟨e, n, ne, nf, d⟩ := I.pin p hp
    have nch : p.1 ∉ ch := fun z => (hch p.1 z).2.2.2 p hp rfl
    exact ⟨keep p.1 p.2 ne nf nch e n, free p.1 p.2 nch e n, ne, nf, d⟩
/-- .. where the frame's own object is kept too -/
theorem Inv.un {t' : Nat} (I : Inv X pins σ H s) (u : Un X.fs [] H H' s.heap h') (hok : HOk X.prog X.w H' h') : Inv X pins σ H' { s with heap := h', toks := t' } := by
  obtain ⟨m, ⟨o, es, ep, ho, r⟩, _⟩ := id I.loc
  obtain ⟨sl, hL⟩ := u.any ho I.free (by simp)
  exact I.step (g' := s.gens) (d' := s.drawn) (ch := []) (fun _ z => nomatch z) (fun b o _ hb _ e n => u.keep b o e n hb (by simp)) (fun b o _ hb _ e n => u.slot b o e n hb (by simp)) (fun b o _ e n => u.free b o e n (by simp)) (fun b o _ e => u.there b o e (by simp)) u.tups u.frzs u.tbls (fun m' hm => by
    obtain ⟨o', es', ep', ho', r'⟩ := hm
    rw [ho] at ho'; cases ho'
    exact ⟨_, es', ep', hL, r'⟩) hok I.bare
/-- behind a call (or a comprehension's block): the slots of this frame may have changed too, the records at ch may have turned -/
theorem Inv.call {g' : Array GenState} {t' : Nat} {d' : Drawn} {ch : List Addr} (I : Inv X pins σ H s) (u : Un (frs X.stack) ch H H' s.heap h') (hok : HOk X.prog X.w H' h') (hg : AllBare g')
    (hch : ∀ b ∈ ch, (b ∈ X.ex ∨ X.s₀.heap.objs.size ≤ b) ∧ b ≠ X.env.locals ∧ (∀ x c, X.env.cells.lookup x = some c → c ≠ b) ∧ ∀ p ∈ X.pn ++ pins, p.1 ≠ b) :
    Inv X pins σ H' { s with heap := h', gens := g', drawn := d', toks := t' } := by
  obtain ⟨m, ⟨o, es, ep, ho, r⟩, _⟩ := id I.loc
  obtain ⟨sl, hL⟩ := u.any ho I.free fun z => (hch _ z).2.1 rfl
  exact I.step (ch := ch) hch (fun b o hL hb hc e n => u.keep b o e n (fun z => (List.mem_cons.mp (I.stkSub b z)).elim hL hb) hc) (fun b o _ _ hc e n => u.any e n hc) (fun b o hc e n => u.free b o e n hc) (fun b o hc e => u.there b o e hc) u.tups u.frzs u.tbls (fun m' hm => by
    obtain ⟨o', es', ep', ho', r'⟩ := hm
    rw [ho] at ho'; cases ho'
    exact ⟨_, es', ep', hL, r'⟩) hok hg
/-- an untracked record of ours (an iterator) has turned -/
theorem Inv.turned {t' : Nat} {it : Addr} (I : Inv X pins σ H s) (k : ∀ b o, b ≠ it → s.heap.get? b = some o → h'.get? b = some o) (hn : H it = none) (hL : it ≠ X.env.locals)
    (h1 : it ∈ X.ex ∨ X.s₀.heap.objs.size ≤ it) (h2 : ∀ x c, X.env.cells.lookup x = some c → c ≠ it) (h3 : ∀ p ∈ X.pn ++ pins, p.1 ≠ it) : Inv X pins σ H { s with heap := h', toks := t' } := by
  have nit : ∀ b u, H b = some u → b ≠ it := fun b u e z => by rw [z, hn] at e; cases e
  refine I.step (g' := s.gens) (d' := s.drawn) (ch := [it]) (fun b hb => ?_) (fun b o _ _ hc e _ => k b o (fun z => hc (by simp [z])) e) (fun b o _ _ hc e _ => ⟨o.slots, k b o (fun z => hc (by simp [z])) e⟩) (fun _ _ _ _ n => n)
    (fun b o hc e => ⟨o, k b o (fun z => hc (by simp [z])) e⟩) (fun _ _ e => e) (fun _ _ _ e => e) (fun b ps e => ⟨#[], by rw [e]; simp⟩) (fun m hm => ?_) (fun b u e => ?_) I.bare
  · have e : b = it := by simpa using hb
    subst e
    exact ⟨h1, hL, h2, h3⟩
  · obtain ⟨o, es, ep, ho, r⟩ := hm
    exact ⟨o, es, ep, k _ o (Ne.symm hL) ho, r⟩
  · refine (I.hok b u e).stay (fun c v hc q => k c v ?_ q) (fun _ q => q) fun _ _ q => q
    rcases hc with z | z
    · rw [z]; exact nit b u e
    · exact nit c _ z
theorem Inv.tok (I : Inv X pins σ H s) (t : Nat) : Inv X pins σ H { s with toks := t } := I.un (h' := s.heap) (t' := t) Un.refl I.hok
/-- all objects kept -/
theorem Inv.kept {t' : Nat} (I : Inv X pins σ H s) (k : ∀ b u, s.heap.get? b = some u → h'.get? b = some u) : Inv X pins σ H { s with heap := h', toks := t' } := I.un (Un.kept k) (I.hok.kept k)
/-- a new object laid and tracked -/
theorem Inv.laid {a : Addr} {o : HO} {t' : Nat} (I : Inv X pins σ H s) (k : ∀ b u, s.heap.get? b = some u → h'.get? b = some u) (hp : s.heap.objs.size ≤ a) (new : ObjOk X.prog X.w (upd H a o) h' a o) :
    Inv X pins σ (upd H a o) { s with heap := h', toks := t' } := I.un (Un.laid k hp (I.hok.fresh hp)) (I.hok.laid k hp new)
/-- an object written -/
theorem Inv.write {x e : Addr} {o : HO} {t' : Nat} (I : Inv X pins σ H s) (mu : Mut (H x)) (he : e = x ∨ H e = some (.own x)) (k : ∀ b u, b ≠ e → s.heap.get? b = some u → h'.get? b = some u) (heo : ∃ u, h'.get? e = some u)
    (new : ObjOk X.prog X.w (upd H x o) h' x o) : Inv X pins σ (upd H x o) { s with heap := h', toks := t' } := I.un (Un.write mu he k heo) (I.hok.write mu he k heo new)
theorem Inv.pins_of {pins' : List (Addr × Obj)} (I : Inv X pins σ H s) (h : ∀ p ∈ pins', s.heap.get? p.1 = some p.2 ∧ H p.1 = none ∧ p.1 ≠ X.env.locals ∧ p.1 ∉ X.fs ∧ ∀ v, p.2.data ≠ .cell v) : Inv X pins' σ H s :=
  ⟨I.ok, I.os, I.bare, I.base, I.loc, I.cell, I.free, I.freeC, fun p hp => (List.mem_append.mp hp).elim (fun z => I.pin p (List.mem_append_left _ z)) (h p), I.hok, I.len⟩

theorem nodup_ix {N : List Str} (hN : N.Nodup) {i j : Nat} {x : Str} (a : N[i]? = some x) (b : N[j]? = some x) : i = j := by
  obtain ⟨h1, e1⟩ := List.getElem?_eq_some_iff.mp a
  obtain ⟨h2, e2⟩ := List.getElem?_eq_some_iff.mp b
  exact (List.getElem_inj hN).mp (e1.trans e2.symm)

/-- a name is stored; what changed -/
theorem store_ok2 {M : Model} {A : Around} {E : Value → Shared → Prop} {i : Nat} {x : Str} {v : V} {u : Value} {Q : Unit → Shared → Prop} (I : Inv X pins σ H s) (hN : X.N.Nodup) (hi : X.N[i]? = some x) (hx : Loc X.env.scope x) (r : RelV v u)
    (h : ∀ s', Inv X pins (σ.set i (some v)) H s' → (∃ a, Heap.SameBut a s.heap s'.heap ∧ (a = X.env.locals ∨ X.env.cells.lookup x = some a)) → Q () s') (hf : X.fn x = true ∨ X.env.scope.names.lookup x = some .local := by first | exact .inl rfl | exact .inr rfl | assumption) : wpAny M A (storeName X.env x u) Q E s := by
  obtain ⟨m, hn, hl⟩ := id I.loc
  have hcls : (X.env.scope.kind == .class || (X.env.scope.kind == .module && X.env.locals != X.env.globals)) = false := by rw [I.ok.kind]; rfl
  have hiσ : i < σ.length := by rw [I.len]; exact (List.getElem?_eq_some_iff.mp hi).1
  have cne := I.cne
  have tracked : ∀ {a : Addr} {h' : Heap}, (∃ o, s.heap.get? a = some o ∧ H a = none) → Heap.SameBut a s.heap h' → HOk X.prog X.w H h' := fun {a h'} ha hs b ob e => by
    obtain ⟨_, _, hfree⟩ := ha
    refine (I.hok b ob e).stay (fun c w' hc q => (hs.2 c ?_).trans q) (fun _ q => q) fun _ _ q => q
    rintro rfl
    rcases hc with rfl | hc
    · rw [hfree] at e; cases e
    · rw [hfree] at hc; cases hc
  rcases hx with hk | hk
  · refine wpAny_storeName_local hk hn (fun h' hn' hs => ?_) hcls
    obtain ⟨oL, _, _, hoL, _⟩ := id hn
    refine h _ ⟨I.ok, I.os, I.bare, ⟨fun b o e n hb hx => ?_, fun b o e n hb hx => ?_, I.base.free, fun b o e hx => ?_, I.base.tups, I.base.frzs, I.base.tbls⟩, ⟨_, hn', fun j y v' e1 e2 e3 => ?_⟩, fun y c e => ?_, I.free, I.freeC, fun p hp => ?_, tracked ⟨oL, hoL, I.free⟩ hs, by simpa using I.len⟩ ⟨_, hs, .inl rfl⟩
    · exact (hs.2 b (Nat.ne_of_lt (Nat.lt_of_lt_of_le (Heap.lt_size e) I.ok.above))).trans (I.base.keep b o e n hb hx)
    · obtain ⟨sl, e1⟩ := I.base.slot b o e n hb hx
      exact ⟨sl, (hs.2 b (Nat.ne_of_lt (Nat.lt_of_lt_of_le (Heap.lt_size e) I.ok.above))).trans e1⟩
    · obtain ⟨o', e1⟩ := I.base.there b o e hx
      exact ⟨o', (hs.2 b (Nat.ne_of_lt (Nat.lt_of_lt_of_le (Heap.lt_size e) I.ok.above))).trans e1⟩
    · by_cases hj : j = i
      · subst hj
        rw [hi] at e1; cases e1
        rw [List.getElem?_set_self hiσ] at e2
        cases e2
        exact ⟨u, r, .inl ⟨hk, by simp⟩⟩
      · rw [List.getElem?_set_ne (Ne.symm hj)] at e2
        obtain ⟨u', r', q⟩ := hl j y v' e1 e2 e3
        refine ⟨u', r', ?_⟩
        rcases q with ⟨k, e⟩ | ⟨k, c, e, z⟩
        · refine .inl ⟨k, ?_⟩
          have : y ≠ x := fun e => hj (nodup_ix hN e1 (e ▸ hi))
          simp [this, e]
        · exact .inr ⟨k, c, e, z.sameBut hs (cne y c e)⟩
    · obtain ⟨w', z⟩ := I.cell y c e
      exact ⟨w', z.sameBut hs (cne y c e)⟩
    · obtain ⟨e, n, ne, nf, d⟩ := I.pin p hp
      exact ⟨(hs.2 p.1 ne).trans e, n, ne, nf, d⟩
  · have hfn : X.fn x = true := by
      rcases hf with z | z
      · exact z
      · rw [z] at hk; cases hk
    obtain ⟨c, hc⟩ := I.ok.has x (.inl hk)
    obtain ⟨w', z⟩ := I.cell x c hc
    refine wpAny_storeName_cell I.ok.kind hk hc z (fun h' hc' hs => ?_)
    obtain ⟨oc, hoc, hocd⟩ := id z
    refine h { s with heap := h' } ⟨I.ok, I.os, I.bare, ⟨fun b o e n hb hx => ?_, fun b o e n hb hx => ?_, I.base.free, fun b o e hx => ?_, I.base.tups, I.base.frzs, I.base.tbls⟩, ⟨m, hn.sameBut hs (Ne.symm (cne x c hc)), fun j y v' e1 e2 e3 => ?_⟩, fun y c' e => ?_, I.free, I.freeC, fun p hp => ?_, tracked ⟨oc, hoc, I.freeC x c hc⟩ hs, by simpa using I.len⟩ ⟨c, hs, .inr hc⟩
    · exact (hs.2 b (Nat.ne_of_lt (Nat.lt_of_lt_of_le (Heap.lt_size e) (I.ok.cab x c hfn hc)))).trans (I.base.keep b o e n hb hx)
    · obtain ⟨sl, e1⟩ := I.base.slot b o e n hb hx
      exact ⟨sl, (hs.2 b (Nat.ne_of_lt (Nat.lt_of_lt_of_le (Heap.lt_size e) (I.ok.cab x c hfn hc)))).trans e1⟩
    · obtain ⟨o', e1⟩ := I.base.there b o e hx
      exact ⟨o', (hs.2 b (Nat.ne_of_lt (Nat.lt_of_lt_of_le (Heap.lt_size e) (I.ok.cab x c hfn hc)))).trans e1⟩
    · by_cases hj : j = i
      · subst hj
        rw [hi] at e1; cases e1
        rw [List.getElem?_set_self hiσ] at e2
        cases e2
        exact ⟨u, r, .inr ⟨.inl hk, c, hc, hc'⟩⟩
      · rw [List.getElem?_set_ne (Ne.symm hj)] at e2
        obtain ⟨u', r', q⟩ := hl j y v' e1 e2 e3
        refine ⟨u', r', ?_⟩
        rcases q with q | ⟨k, c', e, z'⟩
        · exact .inl q
        · refine .inr ⟨k, c', e, z'.sameBut hs ?_⟩
          rintro rfl
          exact hj (nodup_ix hN e1 (I.ok.inj _ _ _ e hc ▸ hi))
    · by_cases hcc : c' = c
      · subst hcc; exact ⟨_, hc'⟩
      · obtain ⟨w2, z2⟩ := I.cell y c' e
        exact ⟨w2, z2.sameBut hs hcc⟩
    · obtain ⟨e, n, ne, nf, d⟩ := I.pin p hp
      refine ⟨(hs.2 p.1 ?_).trans e, n, ne, nf, d⟩
      intro q
      rw [q, hoc] at e
      have q' : oc = p.2 := Option.some.inj e
      exact d w' (by rw [← q']; exact hocd)
theorem store_ok {M : Model} {A : Around} {E : Value → Shared → Prop} {i : Nat} {x : Str} {v : V} {u : Value} {Q : Unit → Shared → Prop} (I : Inv X pins σ H s) (hN : X.N.Nodup) (hi : X.N[i]? = some x) (hx : Loc X.env.scope x) (r : RelV v u)
    (h : ∀ s', Inv X pins (σ.set i (some v)) H s' → Q () s') (hf : X.fn x = true ∨ X.env.scope.names.lookup x = some .local := by first | exact .inl rfl | exact .inr rfl | assumption) : wpAny M A (storeName X.env x u) Q E s :=
  store_ok2 I hN hi hx r (fun s' I' _ => h s' I') hf
/-- behind a call or a block, the state as it is -/
theorem Inv.call' {s' : Shared} {ch : List Addr} (I : Inv X pins σ H s) (ho : s'.os = s.os) (u : Un (frs X.stack) ch H H' s.heap s'.heap) (hok : HOk X.prog X.w H' s'.heap) (hg : AllBare s'.gens)
    (hch : ∀ b ∈ ch, (b ∈ X.ex ∨ X.s₀.heap.objs.size ≤ b) ∧ b ≠ X.env.locals ∧ (∀ x c, X.env.cells.lookup x = some c → c ≠ b) ∧ ∀ p ∈ X.pn ++ pins, p.1 ≠ b) : Inv X pins σ H' s' := by
  obtain ⟨h', g', d', t', o'⟩ := s'
  have e : o' = s.os := ho
  subst e
  exact I.call (g' := g') (t' := t') (d' := d') u hok hg hch
end

/-! ### the judgements -/
/-- an exception: its class, its own dict's address (where it has one), the abstract heap behind it -/
noncomputable abbrev XK := Value → Option Addr → Hp → Prop
noncomputable abbrev St := List (Option V)
noncomputable abbrev VK := V → Hp → Prop
/-- an expression's reading; a test's; an argument list's -/
noncomputable abbrev TE := St → Hp → VK → Prop
noncomputable abbrev TT := St → Hp → (Bool → Hp → Prop) → Prop
noncomputable abbrev TA := St → Hp → (List V → Hp → Prop) → Prop
/-- what is wanted behind a statement -/
structure Ends where
  nx : St → Hp → Prop
  rt : VK
  bk : St → Hp → Prop := fun _ _ => False
  ct : St → Hp → Prop := fun _ _ => False
noncomputable abbrev TS := Ends → St → Hp → Prop

noncomputable def EP (X : Cx) (pins : List (Addr × Obj)) (σ : St) (Q : VK) (u : Value) (s' : Shared) : Prop := ∃ v H', Inv X pins σ H' s' ∧ RelV v u ∧ Q v H'
noncomputable def TP (X : Cx) (pins : List (Addr × Obj)) (σ : St) (Q : Bool → Hp → Prop) (b : Bool) (s' : Shared) : Prop := ∃ H', Inv X pins σ H' s' ∧ Q b H'
noncomputable def AP (X : Cx) (pins : List (Addr × Obj)) (σ : St) (Q : List V → Hp → Prop) (us : List Value) (s' : Shared) : Prop := ∃ vs H', Inv X pins σ H' s' ∧ Vals vs us ∧ Q vs H'
noncomputable def SP (X : Cx) (pins : List (Addr × Obj)) (D : Ends) (f : Flow) (s' : Shared) : Prop :=
  match f with
  | .next => ∃ σ' H', Inv X pins σ' H' s' ∧ D.nx σ' H'
  | .brk => ∃ σ' H', Inv X pins σ' H' s' ∧ D.bk σ' H'
  | .cont => ∃ σ' H', Inv X pins σ' H' s' ∧ D.ct σ' H'
  | .ret u => ∃ v σ' H', Inv X pins σ' H' s' ∧ RelV v u ∧ D.rt v H'

noncomputable def PE (X : Cx) (e : Expr) (t : TE) : Prop :=
  ∀ (pins : List (Addr × Obj)) (s : Shared) (σ : St) (H : Hp) (Q : VK), Inv X pins σ H s → t σ H Q → wpAny (model X.prog X.w) X.A (eval e X.env) (EP X pins σ Q) X.xe s
noncomputable def PT (X : Cx) (e : Expr) (t : TT) : Prop :=
  ∀ (pins : List (Addr × Obj)) (s : Shared) (σ : St) (H : Hp) (Q : Bool → Hp → Prop), Inv X pins σ H s → t σ H Q → wpAny (model X.prog X.w) X.A (isTrue e X.env (eval e X.env)) (TP X pins σ Q) X.xe s
/-- an argument list (no star), from the left -/
noncomputable def PA (X : Cx) (es : List Expr) (t : TA) : Prop :=
  ∀ (pos : Pos) (pins : List (Addr × Obj)) (s : Shared) (σ : St) (H : Hp) (Q : List V → Hp → Prop), Inv X pins σ H s → t σ H Q → wpAny (model X.prog X.w) X.A (spliced (backTo pos (starEach es X.env))) (AP X pins σ Q) X.xe s
noncomputable def PS (X : Cx) (st : Stmt) (t : TS) : Prop :=
  ∀ (pins : List (Addr × Obj)) (s : Shared) (σ : St) (H : Hp) (D : Ends), Inv X pins σ H s → t D σ H → wpAny (model X.prog X.w) X.A (exec st X.env) (SP X pins D) X.xe s
noncomputable def PSs (X : Cx) (st : List Stmt) (t : TS) : Prop :=
  ∀ (pins : List (Addr × Obj)) (s : Shared) (σ : St) (H : Hp) (D : Ends), Inv X pins σ H s → t D σ H → wpAny (model X.prog X.w) X.A (execs st X.env) (SP X pins D) X.xe s
/-- weaken the end -/
theorem thn {α : Type} {t : Sem α} {Q Q' : α → Shared → Prop} {M : Model} {A : Around} {E : Value → Shared → Prop} {s : Shared} (h : wpAny M A t Q E s) (hQ : ∀ a s, Q a s → Q' a s) : wpAny M A t Q' E s := wpAny_mono h hQ fun _ _ x => x
end L2

namespace L2
open PySem PySem.Spec PyProof.Rows
section
variable {X : Cx}

/-- two expressions in a row -/
theorem bin {a b : Expr} {ta tb : TE} (ha : PE X a ta) (hb : PE X b tb) {pins : List (Addr × Obj)} {s : Shared} {σ : St} {H : Hp} {R : V → V → Hp → Prop} (I : Inv X pins σ H s) (h : ta σ H fun x H1 => tb σ H1 fun y H2 => R x y H2)
    {α : Type} {Q : α → Shared → Prop} {f : Value → Value → Sem α}
    (hf : ∀ v u s2 x y H2, Inv X pins σ H2 s2 → RelV x v → RelV y u → R x y H2 → wpAny (model X.prog X.w) X.A (f v u) Q X.xe s2) :
    wpAny (model X.prog X.w) X.A (eval a X.env) (fun v s₁ => wpAny (model X.prog X.w) X.A (eval b X.env) (fun u s₂ => wpAny (model X.prog X.w) X.A (f v u) Q X.xe s₂) X.xe s₁) X.xe s := by
  refine thn (ha pins s σ H _ I h) fun v s1 ⟨x, H1, I1, r1, q1⟩ => ?_
  refine thn (hb pins s1 σ H1 _ I1 q1) fun u s2 ⟨y, H2, I2, r2, q2⟩ => ?_
  exact hf v u s2 x y H2 I2 r1 r2 q2

/-! ### names and constants -/
noncomputable def tVar (i : Nat) : TE := fun σ H Q => ∃ v, σ[i]? = some (some v) ∧ Q v H
noncomputable def tC (v : V) : TE := fun _ H Q => Q v H
theorem pe_var {i : Nat} {x : Str} {pos : Pos} (hN : X.N[i]? = some x) (hv : Vis X.env.scope x) (hd : (x == ("__debug__" : Str)) = false := by decide) (hcd : (x == ("__classdict__" : Str)) = false := by decide) : PE X (.Name x pos) (tVar i) := by
  intro pins s σ H Q I h
  obtain ⟨v, e, h⟩ := h
  obtain ⟨m, hn, hl⟩ := I.loc
  obtain ⟨u, r, l⟩ := hl i x v hN e hv
  have fin : EP X pins σ Q u s := ⟨v, H, I, r, h⟩
  rcases l with ⟨hk, hm⟩ | ⟨hk, c, hc, hcell⟩
  · exact wpAny_Name (wpAny_loadName_local I.ok.kind hk hn hm fin) hd
  · rcases hk with hk | hk
    · exact wpAny_Name (wpAny_loadName_cell I.ok.kind hk hc hcell fin) hd
    · exact wpAny_Name (wpAny_loadName_free I.ok.kind hk hc hcell fin hcd) hd
theorem pe_int {i j pos} : PE X (.Constant (.int i) j pos) (tC (.int i)) := fun _ _ _ H _ I h => wpAny_Constant_int ⟨.int i, H, I.tok _, ⟨_, rfl⟩, h⟩
theorem pe_str {x j pos} : PE X (.Constant (.str x) j pos) (tC (.str x)) := fun _ _ _ H _ I h => Calls.Constant_str ⟨.str x, H, I.tok _, ⟨_, rfl⟩, h⟩

/-- a global name of the def -/
noncomputable def Gl (X : Cx) (x : Str) : Prop := X.env.kindOf x = some .globalImplicit
theorem ld_glob {E : Value → Shared → Prop} {pins : List (Addr × Obj)} {s : Shared} {σ : St} {H : Hp} {x : Str} {u : Value} {pos : Pos} {Q : Value → Shared → Prop} (I : Inv X pins σ H s) (hg : Gl X x) (hm : X.mg x = some u) (h : Q u s)
    (hd : (x == ("__debug__" : Str)) = false := by decide) : wpAny (model X.prog X.w) X.A (eval (.Name x pos) X.env) Q E s :=
  Calls.Name_function_global I.ok.kind hg (Calls.loadGlobal_global (by rw [I.ok.glob]; exact I.mod.glob.keeps I.bk) hm h) hd
theorem ld_blt {E : Value → Shared → Prop} {pins : List (Addr × Obj)} {s : Shared} {σ : St} {H : Hp} {x : Str} {u : Value} {pos : Pos} {Q : Value → Shared → Prop} (I : Inv X pins σ H s) (hg : Gl X x) (hm : X.mg x = none) (hv : bootBuiltins x = some u) (h : Q u s)
    (hn : x ≠ "__name__" := by decide) (hd : (x == ("__debug__" : Str)) = false := by decide) : wpAny (model X.prog X.w) X.A (eval (.Name x pos) X.env) Q E s := by
  obtain ⟨mb, h1, h2⟩ := I.mod.blt
  exact Calls.Name_function_global I.ok.kind hg (Calls.loadGlobal_builtin (by rw [I.ok.glob]; exact I.mod.glob.keeps I.bk) hm (by rw [I.ok.blt]; exact h1.keeps I.bk) ((h2 x hn).trans hv) h) hd
/-- a module's constant, a class, a function, as a value -/
theorem pe_glob {x : Str} {v : V} {u : Value} {pos : Pos} (hg : Gl X x) (hm : X.mg x = some u) (r : RelV v u) (hd : (x == ("__debug__" : Str)) = false := by decide) : PE X (.Name x pos) (tC v) :=
  fun _ _ _ H _ I h => ld_glob I hg hm ⟨v, H, I, r, h⟩ hd

/-! ### arithmetic -/
variable {a b : Expr} {ta tb : TE} {pos : Pos}

/-! ### comparisons -/
noncomputable def PC (X : Cx) (op : CmpOp) (a b : Expr) (t : TE) : Prop :=
  ∀ (pins : List (Addr × Obj)) (s : Shared) (σ : St) (H : Hp) (Q : VK), Inv X pins σ H s → t σ H Q →
    wpAny (model X.prog X.w) X.A (eval a X.env) (fun v s₁ => wpAny (model X.prog X.w) X.A (eval b X.env) (fun u s₂ => wpAny (model X.prog X.w) X.A (compareOp op v u) (EP X pins σ Q) X.xe s₂) X.xe s₁) X.xe s
/-- a comparison as a value, as a test -/
noncomputable def tB (t : TE) : TT := fun σ H Q => t σ H fun x H1 => ∃ c, x = .bl c ∧ Q c H1
theorem pt_cmp {op : CmpOp} {t : TE} (h : PC X op a b t) (h1 : behindInMarks op b = false := by first | exact nobehind _ (by decide) (by decide) | rfl) : PT X (.Compare a [op] [b] pos) (tB t) := by
  intro pins s σ H Q I hw
  refine wpAny_isTrue_Compare1 (thn (h pins s σ H _ I hw) fun v s1 h1 => thn h1 fun u s2 h2 => thn h2 fun c s3 ⟨x, H1, I1, r1, q1⟩ => ?_) h1
  obtain ⟨d, rfl, q⟩ := q1
  cases r1
  exact wpAny_truthy_bool ⟨H1, I1, q⟩

/-! ### and, or, not -/
variable {tA tB' : TT} {rest : List Expr}
/-- .. as values (bools) -/
noncomputable def tAndV (ta tb : TE) : TE := fun σ H Q => ta σ H fun x H1 => ∃ c, x = .bl c ∧ if c = true then tb σ H1 Q else Q (.bl false) H1
noncomputable def tOrV (ta tb : TE) : TE := fun σ H Q => ta σ H fun x H1 => ∃ c, x = .bl c ∧ if c = true then Q (.bl true) H1 else tb σ H1 Q
theorem pe_one {op} {t : TE} (h : PE X a t) : PE X (.BoolOp op [a] pos) t := fun pins s σ H Q I hw => BoolOp_one (h pins s σ H Q I hw)
theorem pe_and (ha : PE X a ta) (hb : PE X (.BoolOp .And (b :: rest) pos) tb) : PE X (.BoolOp .And (a :: b :: rest) pos) (tAndV ta tb) := by
  intro pins s σ H Q I h
  refine BoolOp_and (thn (ha pins s σ H _ I h) fun v s1 ⟨x, H1, I1, r1, q1⟩ => ?_)
  obtain ⟨c, rfl, q1⟩ := q1
  cases r1
  refine wpAny_truthy_bool ?_
  cases c with
  | true => exact hb pins s1 σ H1 Q I1 q1
  | false => exact ⟨.bl false, H1, I1, rfl, q1⟩
theorem pe_or (ha : PE X a ta) (hb : PE X (.BoolOp .Or (b :: rest) pos) tb) : PE X (.BoolOp .Or (a :: b :: rest) pos) (tOrV ta tb) := by
  intro pins s σ H Q I h
  refine BoolOp_or (thn (ha pins s σ H _ I h) fun v s1 ⟨x, H1, I1, r1, q1⟩ => ?_)
  obtain ⟨c, rfl, q1⟩ := q1
  cases r1
  refine wpAny_truthy_bool ?_
  cases c with
  | false => exact hb pins s1 σ H1 Q I1 q1
  | true => exact ⟨.bl true, H1, I1, rfl, q1⟩
/-- a if t else b -/
noncomputable def tIf (t : TT) (ta tb : TE) : TE := fun σ H Q => t σ H fun c H1 => if c = true then ta σ H1 Q else tb σ H1 Q
theorem pe_ifExp {c : Expr} (hc : PT X c tA) (ha : PE X a ta) (hb : PE X b tb) : PE X (.IfExp c a b pos) (tIf tA ta tb) := by
  intro pins s σ H Q I h
  refine wpAny_IfExp (thn (hc pins s σ H _ I h) fun d s1 ⟨H1, I1, q1⟩ => ?_)
  cases d with
  | true => exact ha pins s1 σ H1 Q I1 q1
  | false => exact hb pins s1 σ H1 Q I1 q1
end
end L2

namespace L2
open PySem PySem.Spec PyProof.Rows

/-! ### a list, a tuple that is read: tracked, frozen, or an object of the module -/
noncomputable def SqL (K : PySem.W.Frag) (H : Hp) (a : Addr) (xs : List V) : Prop :=
  Rd H a (.lst xs) ∨
    ∃ (o : Obj) (its : Array Value) (n : Nat), K.lookup a = some o ∧ o.cls = .type "list" ∧ o.dict = none ∧ o.data = .seq its n ∧ its.size ≤ sizeLine ∧ Vals xs its.toList
noncomputable def SqT (K : PySem.W.Frag) (H : Hp) (a : Addr) (xs : List V) : Prop :=
  Rd H a (.tup xs) ∨
    ∃ (o : Obj) (its : Array Value) (n : Nat), K.lookup a = some o ∧ o.cls = .type "tuple" ∧ o.data = .seq its n ∧ its.size ≤ sizeLine ∧ Vals xs its.toList
noncomputable def absV : Value → Option V
  | .none => some .non
  | .bool b => some (.bl b)
  | .int i _ => some (.int i)
  | .str x _ => some (.str x)
  | .bytes b _ => some (.byt b)
  | .float b _ => some (.flt b)
  | .ref a => some (.ref a)
  | .type n => some (.ty n)
  | _ => none
theorem RelV.abs {x : V} {u : Value} (r : RelV x u) : absV u = some x := by
  cases x with
  | non => cases r; rfl
  | bl _ => cases r; rfl
  | int _ => obtain ⟨t, rfl⟩ := r; rfl
  | str _ => obtain ⟨t, rfl⟩ := r; rfl
  | byt _ => obtain ⟨t, rfl⟩ := r; rfl
  | flt _ => obtain ⟨t, rfl⟩ := r; rfl
  | ref _ => cases r; rfl
  | ty _ => cases r; rfl
theorem RelV.inj {x y : V} {u : Value} (r : RelV x u) (q : RelV y u) : x = y := Option.some.inj (r.abs.symm.trans q.abs)
theorem Vals.inj : ∀ {xs ys : List V} {us : List Value}, Vals xs us → Vals ys us → xs = ys
  | _, _, _, .nil, .nil => rfl
  | _, _, _, .cons r t, .cons r' t' => by rw [r.inj r', Vals.inj t t']
section
variable {X : Cx} {pins : List (Addr × Obj)} {σ : St} {H : Hp} {s : Shared} {a : Addr} {xs ys : List V}
theorem SqL.of {K : PySem.W.Frag} (h : H a = some (.lst xs)) : SqL K H a xs := .inl (.inl h)
theorem SqT.of {K : PySem.W.Frag} (h : H a = some (.tup xs)) : SqT K H a xs := .inl (.inl h)
theorem Inv.list (I : Inv X pins σ H s) (h : SqL X.K H a xs) : ∃ its : List Value, Vals xs its ∧ PlainL s.heap a its.toArray ∧ xs.length ≤ sizeLine := by
  rcases h with h | ⟨o, its, n, hk, hc, hd, hs, hz, r⟩
  · obtain ⟨z, its, n, r, e⟩ := h.ok I.hok
    exact ⟨its, r, ⟨_, n, e, rfl, rfl, rfl⟩, z⟩
  · refine ⟨its.toList, r, ⟨o, n, I.kIn a o hk, hc, hd, by simpa using hs⟩, ?_⟩
    have e := r.length
    simp only [Array.length_toList] at e
    omega
theorem Inv.tuple (I : Inv X pins σ H s) (h : SqT X.K H a xs) : ∃ its : List Value, Vals xs its ∧ IsTup s.heap a its.toArray ∧ xs.length ≤ sizeLine := by
  rcases h with h | ⟨o, its, n, hk, hc, hs, hz, r⟩
  · obtain ⟨z, its, r, p⟩ := h.ok I.hok
    exact ⟨its, r, p, z⟩
  · refine ⟨its.toList, r, ⟨o, I.kIn a o hk, hc, n, by simpa using hs⟩, ?_⟩
    have e := r.length
    simp only [Array.length_toList] at e
    omega
theorem Inv.list_inj (I : Inv X pins σ H s) (h : SqL X.K H a xs) (h' : SqL X.K H a ys) : xs = ys := by
  obtain ⟨its, r, ⟨o, n, e, _, _, d⟩, _⟩ := I.list h
  obtain ⟨its', r', ⟨o', n', e', _, _, d'⟩, _⟩ := I.list h'
  rw [e] at e'; cases e'
  rw [d] at d'
  injection d' with d1 _
  have : its = its' := by simpa using congrArg Array.toList d1
  subst this
  exact r.inj r'
end

/-! ### another wish about exceptions -/
noncomputable abbrev Cx.wish (X : Cx) (E : Value → Shared → Prop) : Cx := { X with xe := E }
theorem Cx.Ok.wish {X : Cx} (ok : X.Ok) (E : Value → Shared → Prop) : (X.wish E).Ok :=
  ⟨ok.mod, ok.kind, ok.glob, ok.blt, ok.above, ok.inj, ok.has, ok.cab, ok.hd, ok.frames, ok.stk, ok.exf, ok.bs, ok.bsz, ok.noex, ok.exfs, ok.funs, ok.frf⟩
theorem Cx.Ok.unwish {X : Cx} {E : Value → Shared → Prop} (ok : (X.wish E).Ok) : X.Ok :=
  ⟨ok.mod, ok.kind, ok.glob, ok.blt, ok.above, ok.inj, ok.has, ok.cab, ok.hd, ok.frames, ok.stk, ok.exf, ok.bs, ok.bsz, ok.noex, ok.exfs, ok.funs, ok.frf⟩
section
variable {X : Cx} {pins : List (Addr × Obj)} {σ : St} {H : Hp} {s : Shared} {E : Value → Shared → Prop}
theorem Inv.wish (I : Inv X pins σ H s) (E : Value → Shared → Prop) : Inv (X.wish E) pins σ H s := ⟨I.ok.wish E, I.os, I.bare, I.base, I.loc, I.cell, I.free, I.freeC, I.pin, I.hok, I.len⟩
theorem Inv.unwish (I : Inv (X.wish E) pins σ H s) : Inv X pins σ H s := ⟨I.ok.unwish, I.os, I.bare, I.base, I.loc, I.cell, I.free, I.freeC, I.pin, I.hok, I.len⟩
end

/-! ### blocks and small statements -/
section
variable {X : Cx} {st : Stmt} {rest : List Stmt} {t u : TS} {e : Expr} {te : TE} {pos : Pos}
noncomputable def tNext : TS := fun D σ H => D.nx σ H
noncomputable def tSeq (t u : TS) : TS := fun D σ H => t { D with nx := u D } σ H
theorem pss_nil : PSs X [] tNext := fun _ _ σ H _ I h => wpAny_execs_nil ⟨σ, H, I, h⟩
theorem pss_cons (h1 : PS X st t) (h2 : PSs X rest u) : PSs X (st :: rest) (tSeq t u) := by
  intro pins s σ H D I h
  refine wpAny_execs_cons (thn (h1 pins s σ H { D with nx := u D } I h) fun f s1 q => ?_)
  cases f with
  | next =>
    obtain ⟨σ', H', I', q⟩ := q
    exact h2 pins s1 σ' H' D I' q
  | ret v => exact q
  | brk => exact q
  | cont => exact q
theorem pss_one (h1 : PS X st t) : PSs X [st] t := by
  intro pins s σ H D I h
  refine wpAny_execs_cons (thn (h1 pins s σ H D I h) fun f s1 q => ?_)
  cases f with
  | next => exact wpAny_execs_nil q
  | ret v => exact q
  | brk => exact q
  | cont => exact q
/-- in a def's body nothing is shown -/
theorem Inv.quiet {pins : List (Addr × Obj)} {σ : St} {H : Hp} {s : Shared} (I : Inv X pins σ H s) : interactive X.env = false := by simp [interactive, I.ok.kind]
/-- an expression whose value is dropped -/
noncomputable def tDrop (te : TE) : TS := fun D σ H => te σ H fun _ H1 => D.nx σ H1
theorem ps_expr (he : PE X e te) (hs : swapsWith e none pos.line X.env = pure false := by rfl) : PS X (.Expr e pos) (tDrop te) := by
  intro pins s σ H D I h
  exact wpAny_Expr_any (thn (he pins s σ H _ I h) fun v s1 ⟨x, H1, I1, r1, q1⟩ => ⟨σ, H1, I1, q1⟩) I.quiet hs
noncomputable def tRet (te : TE) : TS := fun D σ H => te σ H D.rt
theorem ps_ret (he : PE X e te) : PS X (.Return (some e) pos) (tRet te) := by
  intro pins s σ H D I h
  exact wpAny_Return_some (thn (he pins s σ H _ I h) fun v s1 ⟨x, H1, I1, r1, q1⟩ => ⟨x, σ, H1, I1, r1, q1⟩)
noncomputable def tIfS (c : TT) (t u : TS) : TS := fun D σ H => c σ H fun b H1 => if b = true then t D σ H1 else u D σ H1
theorem ps_if {c : Expr} {a b : List Stmt} {tc : TT} (hc : PT X c tc) (ha : PSs X a t) (hb : PSs X b u) : PS X (.If c a b pos) (tIfS tc t u) := by
  intro pins s σ H D I h
  refine wpAny_If (thn (hc pins s σ H _ I h) fun d s1 ⟨H1, I1, q1⟩ => ?_)
  cases d with
  | true => exact ha pins s1 σ H1 D I1 q1
  | false => exact hb pins s1 σ H1 D I1 q1
end

/-! ### targets -/
noncomputable abbrev TG := V → St → Hp → (St → Hp → Prop) → Prop
noncomputable abbrev TGs := List V → St → Hp → (St → Hp → Prop) → Prop
noncomputable def PG (X : Cx) (target : Expr) (t : TG) : Prop :=
  ∀ (pins : List (Addr × Obj)) (s : Shared) (σ : St) (H : Hp) (v : V) (u : Value) (Q : St → Hp → Prop), Inv X pins σ H s → RelV v u → t v σ H Q →
    wpAny (model X.prog X.w) X.A (assign target X.env u) (fun _ s' => ∃ σ' H', Inv X pins σ' H' s' ∧ Q σ' H') X.xe s
/-- several targets, one after another -/
noncomputable def PGs (X : Cx) (ts : List Expr) (t : TGs) : Prop :=
  ∀ (pins : List (Addr × Obj)) (s : Shared) (σ : St) (H : Hp) (vs : List V) (us : List Value) (Q : St → Hp → Prop), Inv X pins σ H s → Vals vs us → t vs σ H Q →
    wpAny (model X.prog X.w) X.A (assignInOrder ((assignEach ts X.env).map (·.2)) us) (fun _ s' => ∃ σ' H', Inv X pins σ' H' s' ∧ Q σ' H') X.xe s
/-- o[i] = v, by values -/
noncomputable abbrev TSet := V → V → V → Hp → (Hp → Prop) → Prop
noncomputable def PSet (X : Cx) (t : TSet) : Prop :=
  ∀ (pins : List (Addr × Obj)) (s : Shared) (σ : St) (H : Hp) (o i v : V) (ov iv u : Value) (Q : Hp → Prop), Inv X pins σ H s → RelV o ov → RelV i iv → RelV v u → t o i v H Q →
    wpAny (model X.prog X.w) X.A (setItem ov iv u) (fun _ s' => ∃ H', Inv X pins σ H' s' ∧ Q H') X.xe s
section
variable {X : Cx} {pos : Pos}
noncomputable def gName (i : Nat) : TG := fun v σ H Q => Q (σ.set i (some v)) H
theorem pg_name {i : Nat} {x : Str} (hN : X.N.Nodup) (hi : X.N[i]? = some x) (hx : Loc X.env.scope x) (hf : X.fn x = true ∨ X.env.scope.names.lookup x = some .local := by first | exact .inl rfl | exact .inr rfl | assumption) : PG X (.Name x pos) (gName i) := by
  intro pins s σ H v u Q I r h
  exact wpAny_assign_Name (store_ok I hN hi hx r (fun s' I' => ⟨_, H, I', h⟩) hf)
noncomputable def gNil : TGs := fun vs σ H Q => vs = [] ∧ Q σ H
noncomputable def gCons (t : TG) (u : TGs) : TGs := fun vs σ H Q => ∃ v r, vs = v :: r ∧ t v σ H fun σ' H' => u r σ' H' Q
theorem pgs_nil : PGs X [] gNil := by
  intro pins s σ H vs us Q I r h
  obtain ⟨e, h⟩ := h
  subst e
  cases r
  exact assignInOrder_nil ⟨σ, H, I, h⟩
theorem pgs_cons {e : Expr} {es : List Expr} {t : TG} {u : TGs} (h1 : PG X e t) (h2 : PGs X es u)
    (hs : (assignEach (e :: es) X.env).map (·.2) = assign e X.env :: (assignEach es X.env).map (·.2) := by rfl) : PGs X (e :: es) (gCons t u) := by
  intro pins s σ H vs us Q I r h
  obtain ⟨v, vr, e1, h⟩ := h
  subst e1
  cases r with
  | cons r rr =>
    rw [hs]
    refine assignInOrder_cons (thn (h1 pins s σ H _ _ _ I r h) fun _ s1 ⟨σ1, H1, I1, q1⟩ => ?_)
    exact h2 pins s1 σ1 H1 _ _ Q I1 rr q1
/-- (a, b, ..) = a tuple of that length -/
noncomputable def gTup (K : PySem.W.Frag) (n : Nat) (t : TGs) : TG := fun v σ H Q => ∃ a xs, v = .ref a ∧ SqT K H a xs ∧ xs.length = n ∧ t xs σ H Q
theorem pg_tup {es : List Expr} {k : Nat} {t : TGs} {n : Nat} (hc : X.calm = true) (h : PGs X es t)
    (hn : (assignEach es X.env).length = n := by rfl) (hst : (assignEach es X.env).findIdx? (·.1) = none := by rfl) : PG X (.Tuple es k pos) (gTup X.K n t) := by
  intro pins s σ H v u Q I r hw
  obtain ⟨a, xs, e1, hq, hl, hw⟩ := hw
  subst e1
  cases r
  obtain ⟨its, rv, ht, hz⟩ := I.tuple hq
  refine assign_Tuple_tuple (I.ok.hd hc) ht (by simp [hn, ← hl, rv.length]) hst fun h' hx => ?_
  have I1 : Inv X pins σ H { s with heap := h' } := I.kept (t' := s.toks) fun b o e => hx b o (Nat.ne_of_lt (Heap.lt_size e)) e
  exact h pins _ σ H xs _ Q I1 (by simpa using rv) hw
/-- o[i] = .. -/
noncomputable def gSub (to ti : TE) (t : TSet) : TG := fun v σ H Q => to σ H fun o H1 => ti σ H1 fun i H2 => t o i v H2 fun H3 => Q σ H3
theorem pg_sub {o i : Expr} {to ti : TE} {t : TSet} (ho : PE X o to) (hi : PE X i ti) (hs : PSet X t)
    (ha : ∀ v, assign (.Subscript o i pos) X.env v = (do
      let ov ← holding [v] (eval o X.env)
      let iv ← holding [v, ov] (eval i X.env)
      standAt pos
      holding [v, ov, iv] (setItem ov iv v)
      release [v, ov, iv] []) := by intro _; rfl) : PG X (.Subscript o i pos) (gSub to ti t) := by
  intro pins s σ H v u Q I r h
  rw [ha]
  refine wpAny_bind (wpAny_holding (thn (ho pins s σ H _ I h) fun ov s1 ⟨x, H1, I1, r1, q1⟩ => ?_))
  refine wpAny_bind (wpAny_holding (thn (hi pins s1 σ H1 _ I1 q1) fun iv s2 ⟨y, H2, I2, r2, q2⟩ => ?_))
  refine wpAny_bind (wpAny_standAt (wpAny_bind (wpAny_holding (thn (hs pins s2 σ H2 x y v ov iv u _ I2 r1 r2 r q2) fun _ s3 ⟨H3, I3, q3⟩ => ?_))))
  exact wpAny_release ⟨σ, H3, I3, q3⟩
/-- target = value -/
noncomputable def tAsg (te : TE) (g : TG) : TS := fun D σ H => te σ H fun x H1 => g x σ H1 D.nx
theorem ps_asg {tg e : Expr} {te : TE} {g : TG} (he : PE X e te) (hg : PG X tg g) (hs : swapsWithSole [tg] e pos.line X.env = pure false := by rfl) (hw : swappedStores [tg] e X.env = pure none := by rfl)
    (h1 : (assignEach [tg] X.env).map (·.2) = [assign tg X.env] := by rfl) : PS X (.Assign [tg] e pos) (tAsg te g) := by
  intro pins s σ H D I h
  refine wpAny_Assign_stores (thn (he pins s σ H _ I h) fun v s1 ⟨x, H1, I1, r1, q1⟩ => ?_) hs hw
  rw [h1]
  exact thn (hg pins s1 σ H1 x v _ I1 r1 q1) fun _ s2 q => q
/-- name = value -/
theorem ps_set {i : Nat} {x : Str} {e : Expr} {te : TE} {pos' : Pos} (hN : X.N.Nodup) (hi : X.N[i]? = some x) (hx : Loc X.env.scope x) (he : PE X e te) (hs : swapsWith e (some (.Name x pos')) pos.line X.env = pure false := by rfl) (hf : X.fn x = true ∨ X.env.scope.names.lookup x = some .local := by first | exact .inl rfl | exact .inr rfl | assumption) :
    PS X (.Assign [.Name x pos'] e pos) (tAsg te (gName i)) := by
  intro pins s σ H D I h
  refine wpAny_Assign_Name (thn (he pins s σ H _ I h) fun v s1 ⟨y, H1, I1, r1, q1⟩ => ?_) hs
  exact store_ok I1 hN hi hx r1 (fun s2 I2 => ⟨_, H1, I2, q1⟩) hf
end

/-! ### while -/
section
variable {X : Cx} {pos : Pos}
end

/-! ### what a loop or a comprehension walks -/
/-- at turn i: it yields x (the heap may grow), or it stops -/
structure It where
  go : Nat → Hp → Prop
  yld : Nat → Hp → V → Hp → Prop
  stop : Nat → Hp → Prop
/-- the iterator's own objects may turn: they are not the frame's, not pinned, younger than the entry (or a comprehension's own) -/
noncomputable def FpOk (X : Cx) (pins : List (Addr × Obj)) (H : Hp) (b : Addr) : Prop :=
  H b = none ∧ b ≠ X.env.locals ∧ b ∉ X.fs ∧ (b ∈ X.ex ∨ X.s₀.heap.objs.size ≤ b) ∧ (∀ x c, X.env.cells.lookup x = some c → c ≠ b) ∧ ∀ p ∈ X.pn ++ pins, p.1 ≠ b
theorem Inv.fpOk {X : Cx} {pins : List (Addr × Obj)} {σ : St} {H H' : Hp} {s : Shared} {b : Addr} (I : Inv X pins σ H s) (hb : s.heap.objs.size ≤ b) (hn : H' b = none) : FpOk X pins H' b := by
  refine ⟨hn, Nat.ne_of_gt (Nat.lt_of_lt_of_le I.lt hb), I.nofs hb, .inr (Nat.le_trans I.sz hb), fun x c e z => ?_, fun p hp z => ?_⟩
  · obtain ⟨v, q⟩ := I.cell x c e
    exact absurd (Nat.lt_of_lt_of_le q.lt (by rw [z]; exact hb)) (Nat.lt_irrefl _)
  · exact absurd (Nat.lt_of_lt_of_le (Heap.lt_size (I.pin p hp).1) (by rw [z]; exact hb)) (Nat.lt_irrefl _)
structure Turn (P : Program) (w : World) (K : PySem.W.Frag) (tg : Expr) (J : It) (fp : List Addr) (it : Addr) (tn : Nat → Heap → Prop) : Prop where
  mem : it ∈ fp
  obj : ∀ i h, tn i h → ∀ b ∈ fp, ∃ o, h.get? b = some o ∧ ∀ v, o.data ≠ .cell v
  keep : ∀ i h h', tn i h → (∀ b ∈ fp, ∀ o, h.get? b = some o → h'.get? b = some o) → tn i h'
  item : ∀ (X : Cx), X.prog = P → X.w = w → X.K = K → X.calm = true → ∀ (i : Nat) (pins : List (Addr × Obj)) (s : Shared) (σ : St) (H : Hp) (E : Value → Shared → Prop), Inv X pins σ H s → (∀ b ∈ fp, FpOk X pins H b) → tn i s.heap → J.go i H →
    wpAny (model P w) X.A (pyNext (.ref it)) (fun r s1 => ∃ u, r = some u ∧
      wpAny (model P w) X.A (letOwnedTupleGo tg (.ref it) u) (fun _ s2 => ∃ x H', Inv X pins σ H' s2 ∧ RelV x u ∧ J.yld i H x H' ∧ tn (i + 1) s2.heap ∧ ∀ b ∈ fp, H' b = none) E s1) E s
  done : ∀ (X : Cx), X.prog = P → X.w = w → X.K = K → X.calm = true → ∀ (i : Nat) (pins : List (Addr × Obj)) (s : Shared) (σ : St) (H : Hp) (E : Value → Shared → Prop), Inv X pins σ H s → (∀ b ∈ fp, FpOk X pins H b) → tn i s.heap → J.stop i H →
    wpAny (model P w) X.A (pyNext (.ref it)) (fun r s1 => r = none ∧ Inv X pins σ H s1) E s
  self : ∀ (A : Around) (i : Nat) (s : Shared) (Q : Value → Shared → Prop) (E : Value → Shared → Prop), tn i s.heap → Q (.ref it) s → wpAny (model P w) A (pyIter (.ref it)) Q E s
noncomputable abbrev TI := St → Hp → (It → Hp → Prop) → Prop
/-- an iterator has come -/
noncomputable def PIE (X : Cx) (pins : List (Addr × Obj)) (σ : St) (tg : Expr) (R : It → Hp → Prop) (itv : Value) (s2 : Shared) : Prop :=
  ∃ (it : Addr) (fp : List Addr) (tn : Nat → Heap → Prop) (J : It) (H' : Hp), itv = .ref it ∧ Inv X pins σ H' s2 ∧ Turn X.prog X.w X.K tg J fp it tn ∧ tn 0 s2.heap ∧ (∀ b ∈ fp, FpOk X pins H' b) ∧ R J H'
noncomputable def PI (X : Cx) (tg iter : Expr) (wi : TI) : Prop :=
  ∀ (pins : List (Addr × Obj)) (s : Shared) (σ : St) (H : Hp) (R : It → Hp → Prop), Inv X pins σ H s → wi σ H R →
    wpAny (model X.prog X.w) X.A (eval iter X.env) (fun v s1 => wpAny (model X.prog X.w) X.A (pyIter v) (PIE X pins σ tg R) X.xe s1) X.xe s

/-- the step ahead of the store is nothing for an iterator that keeps no tuple -/
theorem go_of {M : Model} {A : Around} {E : Value → Shared → Prop} {s : Shared} {tg : Expr} {it : Addr} {u : Value} {o : Obj} {n : String} {vs : Array Value} {Q : Unit → Shared → Prop} (ho : s.heap.get? it = some o) (hc : o.cls = .type n) (hd : o.data = .fields vs)
    (hn : ["enumerate", "zip", "dict_itemiterator", "dict_reverseitemiterator", "odict_iterator", "itertools.zip_longest", "itertools.pairwise"].contains n = false) (hQ : Q () s) : wpAny M A (letOwnedTupleGo tg (.ref it) u) Q E s := by
  unfold letOwnedTupleGo
  cases tg <;> first
    | exact wpAny_pure hQ
    | (cases u <;> first
        | exact wpAny_pure hQ
        | (refine wpAny_bind (wpAny_load ho ?_)
           rw [hc, hd]
           show wpAny M A (if (["enumerate", "zip", "dict_itemiterator", "dict_reverseitemiterator", "odict_iterator", "itertools.zip_longest", "itertools.pairwise"].contains n && vs[0]? == some (rawInt _)) = true then _ else _) Q E s
           rw [if_neg (by intro h; rw [hn, Bool.false_and] at h; cases h)]
           exact wpAny_pure hQ))

/-- the list at a, as it stands at each turn (a loop may append to it) -/
noncomputable def Itl (K : PySem.W.Frag) (a : Addr) : It :=
  ⟨fun i H => ∃ xs x, SqL K H a xs ∧ xs[i]? = some x, fun i H x H' => H' = H ∧ ∀ xs, SqL K H a xs → xs[i]? = some x, fun i H => ∃ xs, SqL K H a xs ∧ xs.length ≤ i⟩
/-- lo, lo + 1, .. (n of them) -/
noncomputable def Itr (lo : Int) (n : Nat) : It := ⟨fun i _ => i < n, fun i H x H' => H' = H ∧ x = .int (lo + i), fun i _ => n ≤ i⟩
theorem turn_list {P : Program} {w : World} {K : PySem.W.Frag} {tg : Expr} (a it : Addr) : Turn P w K tg (Itl K a) [it] it (fun i h => h.IsListIter it a i) where
  mem := by simp
  obj := fun i h st b hb => by
    have e : b = it := by simpa using hb
    subst e
    obtain ⟨o, e, c, d⟩ := st
    exact ⟨o, e, fun v z => by rw [d] at z; cases z⟩
  keep := fun i h h' st k => st.at fun o e => k it (by simp) o e
  item := by
    intro X hP hw hK hc i pins s σ H E I hf st hg
    subst hP hw hK
    obtain ⟨xs, x, hq, hx⟩ := hg
    obtain ⟨its, rv, p, hz⟩ := I.list hq
    obtain ⟨u, hu, ru⟩ := rv.get hx
    obtain ⟨f0, f1, f2, f3, f4, f5⟩ := hf it (by simp)
    refine wpAny_pyNext_list_item st p.isList (x := u) (by simpa using hu) fun h' st' sb => ?_
    have I1 : Inv X pins σ H { s with heap := h' } := I.turned (t' := s.toks) (fun b o hb e => (sb.2 b hb).trans e) f0 f1 f3 f4 f5
    obtain ⟨o, e, c, d⟩ := id st'
    exact ⟨u, rfl, go_of (s := { s with heap := h' }) e c d (by decide) ⟨x, H, I1, ru, ⟨rfl, fun ys hy => by rw [I.list_inj hy hq]; exact hx⟩, st', fun b hb => (hf b hb).1⟩⟩
  done := by
    intro X hP hw hK hc i pins s σ H E I hf st hg
    subst hP hw hK
    obtain ⟨xs, hq, hx⟩ := hg
    obtain ⟨its, rv, p, hz⟩ := I.list hq
    obtain ⟨f0, f1, f2, f3, f4, f5⟩ := hf it (by simp)
    have hl := rv.length
    exact wpAny_pyNext_list_end (I.ok.hd hc) st p.isList (by simp; omega) fun h' eb => ⟨rfl, I.turned (t' := s.toks) (fun b o hb e => eb b o hb e) f0 f1 f3 f4 f5⟩
  self := fun _ _ _ _ _ st h => wpAny_pyIter_listiter st h
theorem turn_range {P : Program} {w : World} {K : PySem.W.Frag} {tg : Expr} (it : Addr) (lo : Int) (n : Nat) : Turn P w K tg (Itr lo n) [it] it (fun i h => IsRangeIter h it (lo + (i : Nat) * 1) ((n : Int) - (i : Nat)) 1) where
  mem := by simp
  obj := fun i h st b hb => by
    have e : b = it := by simpa using hb
    subst e
    exact ⟨_, st, fun v z => by
      have z' : Data.fields _ = Data.cell v := z
      cases z'⟩
  keep := fun i h h' st k => k it (by simp) _ st
  item := by
    intro X hP hw hK hc i pins s σ H E I hf st hg
    subst hP hw hK
    obtain ⟨f0, f1, f2, f3, f4, f5⟩ := hf it (by simp)
    have W := Walks.range (prog := X.prog) (w := X.w) (I.ok.hd hc) it lo 1 n
    refine W.item i s _ _ hg st fun v h' tk hv st' kk => ?_
    obtain ⟨t, rfl⟩ := hv
    have I1 : Inv X pins σ H { s with heap := h', toks := tk } := I.turned (fun b o hb e => kk b o (by simpa using hb) e) f0 f1 f3 f4 f5
    refine ⟨_, rfl, go_of (s := { s with heap := h', toks := tk }) (n := "range_iterator") st' rfl rfl (by decide) ⟨.int (lo + i), H, I1, ⟨t, ?_⟩, ⟨rfl, rfl⟩, st', fun b hb => (hf b hb).1⟩⟩
    rw [Int.mul_one]
  done := by
    intro X hP hw hK hc i pins s σ H E I hf st hg
    subst hP hw hK
    obtain ⟨f0, f1, f2, f3, f4, f5⟩ := hf it (by simp)
    exact wpAny_pyNext_range_end (I.ok.hd hc) st (by have : n ≤ i := hg; omega) fun h' eb => ⟨rfl, I.turned (t' := s.toks) (fun b o hb e => eb b o hb e) f0 f1 f3 f4 f5⟩
  self := fun _ _ _ _ _ st h => wpAny_pyIter_rangeiter st h
end L2

namespace L2
open PySem PySem.Spec PyProof.Rows
section
variable {X : Cx} {tg : Expr}
noncomputable def iList (K : PySem.W.Frag) (tl : TE) : TI := fun σ H R => tl σ H fun x H1 => ∃ a, x = .ref a ∧ (∃ xs, SqL K H1 a xs) ∧ R (Itl K a) H1
theorem pi_list {l : Expr} {tl : TE} (hl : PE X l tl) : PI X tg l (iList X.K tl) := by
  intro pins s σ H R I h
  refine thn (hl pins s σ H _ I h) fun v s1 ⟨x, H1, I1, r1, q1⟩ => ?_
  obtain ⟨a, e, ⟨xs, hq⟩, q⟩ := q1
  subst e
  cases r1
  obtain ⟨its, rv, p, hz⟩ := I1.list hq
  refine wpAny_pyIter_list p.isList ?_
  refine ⟨s1.heap.objs.size, [s1.heap.objs.size], _, _, H1, rfl, I1.kept (t' := s1.toks) fun b o e => Heap.get?_push_of_some _ e, turn_list a _, ⟨_, Heap.get?_push_size _ rfl, rfl, rfl⟩, fun b hb => ?_, q⟩
  have e : b = s1.heap.objs.size := by simpa using hb
  subst e
  exact I1.fpOk (Nat.le_refl _) (I1.hok.fresh (Nat.le_refl _))
/-- a range object just made, walked -/
theorem range_it {pins : List (Addr × Obj)} {σ : St} {H : Hp} {s : Shared} {R : It → Hp → Prop} {E : Value → Shared → Prop} {lo hi : Int} {t u v : Tok} {tk : Nat} (I : Inv X pins σ H s) (h1 : -(2 ^ 62) ≤ lo) (h2 : lo < 2 ^ 62) (h3 : -(2 ^ 62) ≤ hi) (h4 : hi < 2 ^ 62)
    (q : R (Itr lo (hi - lo).toNat) H) : wpAny (model X.prog X.w) X.A (pyIter (.ref s.heap.objs.size)) (PIE X pins σ tg R) E { s with heap := s.heap.push { cls := .type "range", data := .fields #[.int lo t, .int hi u, .int 1 v] }, toks := tk } := by
  refine wpAny_pyIter_range (IsRange.new ..) (small_one h1 h2 h3 h4) ?_
  have I1 : Inv X pins σ H { s with heap := s.heap.push { cls := .type "range", data := .fields #[.int lo t, .int hi u, .int 1 v] }, toks := tk } := I.kept fun b o e => Heap.get?_push_of_some _ e
  refine ⟨(s.heap.push { cls := .type "range", data := .fields #[.int lo t, .int hi u, .int 1 v] }).objs.size, [(s.heap.push { cls := .type "range", data := .fields #[.int lo t, .int hi u, .int 1 v] }).objs.size], _, _, H, rfl,
    I1.kept (t' := tk) fun b o e => Heap.get?_push_of_some _ e, turn_range _ lo (hi - lo).toNat, ?_, fun b hb => ?_, q⟩
  · have e1 : lo + ((0 : Nat) : Int) * 1 = lo := by simp
    have e2 : (((hi - lo).toNat : Nat) : Int) - ((0 : Nat) : Int) = Builtin.Range.rangeSize lo hi 1 := by rw [rangeSize_one]; split <;> omega
    show IsRangeIter _ _ (lo + ((0 : Nat) : Int) * 1) ((((hi - lo).toNat : Nat) : Int) - ((0 : Nat) : Int)) 1
    rw [e1, e2]
    exact Heap.get?_push_size _ rfl
  · have e : b = (s.heap.push { cls := .type "range", data := .fields #[.int lo t, .int hi u, .int 1 v] }).objs.size := by simpa using hb
    subst e
    exact I1.fpOk (Nat.le_refl _) (I1.hok.fresh (Nat.le_refl _))
noncomputable def iRng1 (ta : TA) : TI := fun σ H R => ta σ H fun vs H1 => ∃ j : Int, vs = [.int j] ∧ -(2 ^ 62) ≤ j ∧ j < 2 ^ 62 ∧ R (Itr 0 j.toNat) H1
theorem pi_range1 {a : Expr} {ta : TA} {p pos : Pos} (hg : Gl X "range") (hm : X.mg "range" = none) (ha : PA X [a] ta) (hs : starEach [a] X.env = [(false, eval a X.env)] := by rfl) : PI X tg (.Call (.Name "range" p) [a] [] pos) (iRng1 ta) := by
  intro pins s σ H R I h
  refine Call_ (ld_blt I hg hm boot_range (PyProof.Rows.callWith_type1 (thn (ha pos pins s σ H _ I h) fun us s1 ⟨vs, H1, I1, r1, q1⟩ => ?_) hs rfl))
  obtain ⟨j, e, q1, q2, q⟩ := q1
  subst e
  cases r1 with
  | cons r rr =>
    cases rr
    obtain ⟨t, rfl⟩ := r
    exact call_range_1 (range_it I1 (by omega) (by omega) q1 q2 (by simpa using q))

/-! ### for -/
/-- W: the invariant by the turn and a measure; N: what the body is to reach -/
noncomputable def tFor (wi : TI) (g : TG) (tb : TS) : TS := fun D σ H => wi σ H fun J H1 => ∃ W : Nat → Nat → St → Hp → Prop, (∃ m, W 0 m σ H1) ∧ ∀ i m σ H, W i m σ H →
  (J.stop i H ∧ D.nx σ H) ∨ (J.go i H ∧ ∃ N : St → Hp → Prop, (∀ σ' H', N σ' H' → ∃ m', m' < m ∧ W (i + 1) m' σ' H') ∧ ∀ x H', J.yld i H x H' → g x σ H' fun σ2 H2 => tb { D with nx := N, ct := N, bk := D.nx } σ2 H2)
/-- the records at fp as they stand -/
noncomputable def pinsAt (fp : List Addr) (h : Heap) : List (Addr × Obj) := fp.filterMap fun b => (h.get? b).map fun o => (b, o)
theorem mem_pinsAt {fp : List Addr} {h : Heap} {b : Addr} {o : Obj} (hb : b ∈ fp) (e : h.get? b = some o) : (b, o) ∈ pinsAt fp h := List.mem_filterMap.mpr ⟨b, hb, by rw [e]; rfl⟩
theorem of_pinsAt {fp : List Addr} {h : Heap} {p : Addr × Obj} (hp : p ∈ pinsAt fp h) : p.1 ∈ fp ∧ h.get? p.1 = some p.2 := by
  obtain ⟨b, hb, e⟩ := List.mem_filterMap.mp hp
  cases q : h.get? b with
  | none => rw [q] at e; cases e
  | some o =>
    rw [q] at e
    have e' : (b, o) = p := Option.some.inj e
    subst e'
    exact ⟨hb, q⟩
theorem Inv.pinned {pins : List (Addr × Obj)} {σ : St} {H : Hp} {s : Shared} {fp : List Addr} (I : Inv X pins σ H s) (hf : ∀ b ∈ fp, FpOk X pins H b) (ho : ∀ b ∈ fp, ∃ o, s.heap.get? b = some o ∧ ∀ v, o.data ≠ .cell v) : Inv X (pins ++ pinsAt fp s.heap) σ H s :=
  I.pins_of fun p hp => (List.mem_append.mp hp).elim (fun z => I.pin p (List.mem_append_right _ z)) fun z => by
    obtain ⟨hb, e⟩ := of_pinsAt z
    obtain ⟨f0, f1, f2, _⟩ := hf p.1 hb
    obtain ⟨o, e', d⟩ := ho p.1 hb
    rw [e] at e'; cases e'
    exact ⟨e, f0, f1, f2, d⟩
theorem Inv.unpinned {pins pl : List (Addr × Obj)} {σ : St} {H : Hp} {s : Shared} (I : Inv X (pins ++ pl) σ H s) : Inv X pins σ H s := I.pins_of fun p hp => I.pin p (List.mem_append_right _ (List.mem_append_left _ hp))
theorem ps_for {iter : Expr} {body : List Stmt} {wi : TI} {g : TG} {tb : TS} {pos : Pos} (hp : PassesOwn (model X.prog X.w) X.A X.env X.xe) (hc : X.calm = true) (hi : PI X tg iter wi) (hg : PG X tg g) (hb : PSs X body tb)
    (hs : ∀ x, foldedSetIterable iter X.env x = pure x := by intro _; rfl) : PS X (.For tg iter body [] pos) (tFor wi g tb) := by
  intro pins s σ H D I h
  refine wpAny_For (thn (hi pins s σ H _ I h) fun v s1 h1 => thn h1 fun itv s2 h2 => ?_) hs
  obtain ⟨it, fp, tn, J, H2, e, I2, T, st2, f2, W, ⟨m0, w0⟩, turn⟩ := h2
  subst e
  -- what stays true of the iterator's objects through the loop
  have stat : ∀ {H' : Hp}, (∀ b ∈ fp, H' b = none) → ∀ b ∈ fp, FpOk X pins H' b := fun hn b hb => ⟨hn b hb, (f2 b hb).2⟩
  refine codeAny_forLoop_any (fun n s' => ∃ i σ' H', Inv X pins σ' H' s' ∧ tn i s'.heap ∧ (∀ b ∈ fp, H' b = none) ∧ W i n σ' H') ?_ m0 ⟨0, σ, H2, I2, st2, fun b hb => (f2 b hb).1, w0⟩
  rintro n s3 ⟨i, σ3, H3, I3, st3, fr3, w3⟩
  rcases turn i n σ3 H3 w3 with ⟨stop, qn⟩ | ⟨go, N, hN, step⟩
  · refine wpAny_passesOwn hp (thn (T.done X rfl rfl rfl hc i pins s3 σ3 H3 X.xe I3 (stat fr3) st3 stop) fun r s4 ⟨hr, I4⟩ => ?_)
    subst hr
    exact wpAny_execs_nil ⟨σ3, H3, I4, qn⟩
  · refine wpAny_passesOwn hp (thn (T.item X rfl rfl rfl hc i pins s3 σ3 H3 X.xe I3 (stat fr3) st3 go) fun r s4 ⟨u, hr, h4⟩ => ?_)
    subst hr
    refine wpAny_passesOwn hp (thn h4 fun _ s5 ⟨x, H5, I5, r5, y5, st5, fr5⟩ => ?_)
    have I5' := I5.pinned (stat fr5) (T.obj _ _ st5)
    refine wpAny_passesOwn hp (thn (hg _ s5 σ3 H5 x u _ I5' r5 (step x H5 y5)) fun _ s6 ⟨σ6, H6, I6, q6⟩ => ?_)
    refine wpAny_passesOwn hp (thn (hb _ s6 σ6 H6 _ I6 q6) fun f s7 q7 => ?_)
    have again : ∀ {σ7 : St} {H7 : Hp}, Inv X (pins ++ pinsAt fp s5.heap) σ7 H7 s7 → N σ7 H7 → ∃ m, m < n ∧ ∃ i σ' H', Inv X pins σ' H' s7 ∧ tn i s7.heap ∧ (∀ b ∈ fp, H' b = none) ∧ W i m σ' H' := fun {σ7 H7} I7 n7 => by
      obtain ⟨m', hm, w7⟩ := hN σ7 H7 n7
      refine ⟨m', hm, i + 1, σ7, H7, I7.unpinned, T.keep _ _ _ st5 fun b hb o e => (I7.pin (b, o) (List.mem_append_right _ (List.mem_append_right _ (mem_pinsAt hb e)))).1, fun b hb => ?_, w7⟩
      obtain ⟨o, e, d⟩ := T.obj _ _ st5 b hb
      exact (I7.pin (b, o) (List.mem_append_right _ (List.mem_append_right _ (mem_pinsAt hb e)))).2.1
    cases f with
    | next => obtain ⟨σ7, H7, I7, n7⟩ := q7; exact again I7 n7
    | cont => obtain ⟨σ7, H7, I7, n7⟩ := q7; exact again I7 n7
    | brk => obtain ⟨σ7, H7, I7, q7⟩ := q7; exact ⟨σ7, H7, I7.unpinned, q7⟩
    | ret v => obtain ⟨x7, σ7, H7, I7, r7, q7⟩ := q7; exact ⟨x7, σ7, H7, I7.unpinned, r7, q7⟩
end

/-! ### the forms one uses -/
/-- over a list that the body leaves as it is -/
theorem for_list {K : PySem.W.Frag} {a : Addr} {xs : List V} {g : TG} {tb : TS} {D : Ends} {σ : St} {H : Hp} (Pv : Nat → St → Hp → Prop) (h0 : Pv 0 σ H) (hl : ∀ i σ H, i ≤ xs.length → Pv i σ H → SqL K H a xs)
    (hs : ∀ i x σ H, xs[i]? = some x → Pv i σ H → g x σ H fun σ2 H2 => tb { D with nx := Pv (i + 1), ct := Pv (i + 1), bk := D.nx } σ2 H2) (hd : ∀ σ H, Pv xs.length σ H → D.nx σ H) :
    ∃ W : Nat → Nat → St → Hp → Prop, (∃ m, W 0 m σ H) ∧ ∀ i m σ H, W i m σ H →
      ((Itl K a).stop i H ∧ D.nx σ H) ∨ ((Itl K a).go i H ∧ ∃ N : St → Hp → Prop, (∀ σ' H', N σ' H' → ∃ m', m' < m ∧ W (i + 1) m' σ' H') ∧ ∀ x H', (Itl K a).yld i H x H' → g x σ H' fun σ2 H2 => tb { D with nx := N, ct := N, bk := D.nx } σ2 H2) := by
  refine ⟨fun i m σ H => m = xs.length - i ∧ i ≤ xs.length ∧ Pv i σ H, ⟨xs.length, by simp, Nat.zero_le _, h0⟩, ?_⟩
  rintro i m σ H ⟨rfl, hi, p⟩
  have q := hl i σ H hi p
  by_cases hlt : i < xs.length
  · refine .inr ⟨⟨xs, xs[i], q, by simp [hlt]⟩, Pv (i + 1), fun σ' H' p' => ⟨xs.length - (i + 1), by omega, rfl, hlt, p'⟩, fun x H' y => ?_⟩
    obtain ⟨e, y⟩ := y
    subst e
    exact hs i x σ _ (y xs q) p
  · have e : i = xs.length := by omega
    subst e
    exact .inl ⟨⟨xs, q, Nat.le_refl _⟩, hd σ H p⟩
end L2

namespace L2
open PySem PySem.Spec PyProof.Rows

noncomputable abbrev R2 := V → V → Hp → VK → Prop
/-- a two-place operation on values: f is binaryOp op, inplaceOp op or compareOp op -/
noncomputable def OpR (X : Cx) (f : Value → Value → Sem Value) (r : R2) : Prop :=
  ∀ (pins : List (Addr × Obj)) (s : Shared) (σ : St) (H : Hp) (x y : V) (v u : Value) (Q : VK), Inv X pins σ H s → RelV x v → RelV y u → r x y H Q →
    wpAny (model X.prog X.w) X.A (f v u) (EP X pins σ Q) X.xe s
/-- a one-place operation -/
noncomputable def UnR (X : Cx) (f : Value → Sem Value) (r : V → Hp → VK → Prop) : Prop :=
  ∀ (pins : List (Addr × Obj)) (s : Shared) (σ : St) (H : Hp) (x : V) (v : Value) (Q : VK), Inv X pins σ H s → RelV x v → r x H Q →
    wpAny (model X.prog X.w) X.A (f v) (EP X pins σ Q) X.xe s
/-- a call of a value that is known (a builtin, a type) with values -/
noncomputable def CallR (X : Cx) (f : Value) (r : List V → Hp → VK → Prop) : Prop :=
  ∀ (pins : List (Addr × Obj)) (s : Shared) (σ : St) (H : Hp) (xs : List V) (us : List Value) (Q : VK), Inv X pins σ H s → Vals xs us → r xs H Q →
    wpAny (model X.prog X.w) X.A (call f us) (EP X pins σ Q) X.xe s
/-- a value's truth -/
noncomputable def TruR (X : Cx) (r : V → Hp → (Bool → Hp → Prop) → Prop) : Prop :=
  ∀ (pins : List (Addr × Obj)) (s : Shared) (σ : St) (H : Hp) (x : V) (v : Value) (Q : Bool → Hp → Prop), Inv X pins σ H s → RelV x v → r x H Q →
    wpAny (model X.prog X.w) X.A (truthy v) (TP X pins σ Q) X.xe s

noncomputable def tOp (r : R2) (ta tb : TE) : TE := fun σ H Q => ta σ H fun x H1 => tb σ H1 fun y H2 => r x y H2 Q
noncomputable def tUn (r : V → Hp → VK → Prop) (ta : TE) : TE := fun σ H Q => ta σ H fun x H1 => r x H1 Q
/-- ints in, under C, and a value out -/
noncomputable def rI (C : Int → Int → Prop) (g : Int → Int → V) : R2 := fun x y H Q => ∃ i j, x = .int i ∧ y = .int j ∧ C i j ∧ Q (g i j) H
noncomputable def rI0 (g : Int → Int → V) : R2 := fun x y H Q => ∃ i j, x = .int i ∧ y = .int j ∧ Q (g i j) H
noncomputable def rU (g : Int → V) : V → Hp → VK → Prop := fun x H Q => ∃ i, x = .int i ∧ Q (g i) H

section
variable {X : Cx} {a b c : Expr} {ta tb tc : TE} {pos : Pos}

theorem binT (ha : PE X a ta) (hb : PE X b tb) {pins : List (Addr × Obj)} {s : Shared} {σ : St} {H : Hp} {R : V → V → Hp → Prop} (I : Inv X pins σ H s)
    (h : ta σ H fun x H1 => tb σ H1 fun y H2 => R x y H2) {Q : Value → Shared → Prop} {f : Value → Value → Sem Value}
    (hf : ∀ v u s2 x y H2, Inv X pins σ H2 s2 → RelV x v → RelV y u → R x y H2 → wpAny (model X.prog X.w) X.A (f v u) Q X.xe s2) :
    wpAny (model X.prog X.w) X.A (eval a X.env) (fun v s₁ => wpAny (model X.prog X.w) X.A (eval b X.env) (fun u s₂ => wpAny (model X.prog X.w) X.A (f v u) Q X.xe s₂) X.xe s₁) X.xe s := by
  refine thn (ha pins s σ H _ I h) fun v s1 ⟨x, H1, I1, r1, q1⟩ => ?_
  refine thn (hb pins s1 σ H1 _ I1 q1) fun u s2 ⟨y, H2, I2, r2, q2⟩ => ?_
  exact hf v u s2 x y H2 I2 r1 r2 q2

theorem pe_op {op : Operator} {r : R2} (ho : OpR X (binaryOp op) r) (ha : PE X a ta) (hb : PE X b tb) : PE X (.BinOp a op b pos) (tOp r ta tb) := by
  intro pins s σ H Q I h
  exact wpAny_BinOp (binT ha hb I h fun v u s2 x y H2 I2 rx ry q => ho pins s2 σ H2 x y v u Q I2 rx ry q)
theorem pe_un {op : UnaryOp} {r : V → Hp → VK → Prop} (ho : UnR X (unaryOp op) r) (ha : PE X a ta) : PE X (.UnaryOp op a pos) (tUn r ta) := by
  intro pins s σ H Q I h
  exact UnaryOp_ (thn (ha pins s σ H _ I h) fun v s1 ⟨x, H1, I1, r1, q1⟩ => ho pins s1 σ H1 x v Q I1 r1 q1)

/-! ### ints -/
theorem opI {f : Value → Value → Sem Value} {C : Int → Int → Prop} {g : Int → Int → Int}
    (rule : ∀ (i j : Int) (t u : Tok) (s : Shared) (Q : Value → Shared → Prop) (E : Value → Shared → Prop), C i j → Q (.int (g i j) s.toks) { s with toks := s.toks + 1 } → wpAny (model X.prog X.w) X.A (f (.int i t) (.int j u)) Q E s) :
    OpR X f (rI C fun i j => .int (g i j)) := by
  intro pins s σ H x y v u Q I rx ry h
  obtain ⟨i, j, rfl, rfl, hc, q⟩ := h
  obtain ⟨t, rfl⟩ := rx
  obtain ⟨t', rfl⟩ := ry
  exact rule i j t t' s _ _ hc ⟨.int (g i j), H, I.tok _, ⟨_, rfl⟩, q⟩
theorem opI0 {f : Value → Value → Sem Value} {g : Int → Int → Int}
    (rule : ∀ (i j : Int) (t u : Tok) (s : Shared) (Q : Value → Shared → Prop) (E : Value → Shared → Prop), Q (.int (g i j) s.toks) { s with toks := s.toks + 1 } → wpAny (model X.prog X.w) X.A (f (.int i t) (.int j u)) Q E s) :
    OpR X f (rI0 fun i j => .int (g i j)) := by
  intro pins s σ H x y v u Q I rx ry h
  obtain ⟨i, j, rfl, rfl, q⟩ := h
  obtain ⟨t, rfl⟩ := rx
  obtain ⟨t', rfl⟩ := ry
  exact rule i j t t' s _ _ ⟨.int (g i j), H, I.tok _, ⟨_, rfl⟩, q⟩
theorem opB0 {f : Value → Value → Sem Value} {g : Int → Int → Bool}
    (rule : ∀ (i j : Int) (t u : Tok) (s : Shared) (Q : Value → Shared → Prop) (E : Value → Shared → Prop), Q (.bool (g i j)) s → wpAny (model X.prog X.w) X.A (f (.int i t) (.int j u)) Q E s) :
    OpR X f (rI0 fun i j => .bl (g i j)) := by
  intro pins s σ H x y v u Q I rx ry h
  obtain ⟨i, j, rfl, rfl, q⟩ := h
  obtain ⟨t, rfl⟩ := rx
  obtain ⟨t', rfl⟩ := ry
  exact rule i j t t' s _ _ ⟨.bl (g i j), H, I, rfl, q⟩

noncomputable def CDiv (i j : Int) : Prop := 0 < j ∧ j < 1073741824
noncomputable def CMul (i j : Int) : Prop := (-(2 ^ 64) < i ∧ i < 2 ^ 64) ∨ (-(2 ^ 64) < j ∧ j < 2 ^ 64)
theorem CMul.ok {i j : Int} (h : CMul i j) : IntMulOk i j := by
  rcases h with ⟨h1, h2⟩ | ⟨h1, h2⟩
  · exact .of_left (intBits_le_64 h1 h2)
  · exact .of_right (intBits_le_64 h1 h2)

theorem op_add : OpR X (binaryOp .Add) (rI0 fun i j => .int (i + j)) := opI0 fun _ _ _ _ _ _ _ q => add_int q
theorem op_sub : OpR X (binaryOp .Sub) (rI0 fun i j => .int (i - j)) := opI0 fun _ _ _ _ _ _ _ q => sub_int q
theorem op_mul : OpR X (binaryOp .Mult) (rI CMul fun i j => .int (i * j)) := opI fun _ _ _ _ _ _ _ hc q => mul_int q hc.ok
/-- // by a positive divisor -/
theorem op_fdiv : OpR X (binaryOp .FloorDiv) (rI CDiv fun i j => .int (i / j)) := opI fun i j _ _ _ _ _ hc q => by
  have h1 : (0 : Int) < j := hc.1
  have h2 : j < 1073741824 := hc.2
  exact floordiv_int (by omega) (by rw [Int.fdiv_eq_ediv_of_nonneg i (by omega)]; exact q) (.inl (PyProof.noPylong_small (by omega)))
/-- % by a positive divisor of any size -/
theorem op_mod : OpR X (binaryOp .Mod) (rI (fun _ j => 0 < j) fun i j => .int (i % j)) := opI fun i j _ _ _ _ _ hc q => by
  have h1 : (0 : Int) < j := hc
  exact mod_int' (by omega) (by rw [Int.fmod_eq_emod_of_nonneg i (by omega)]; exact q)


theorem unI {f : Value → Sem Value} {g : Int → Int}
    (rule : ∀ (i : Int) (t : Tok) (s : Shared) (Q : Value → Shared → Prop) (E : Value → Shared → Prop), Q (.int (g i) s.toks) { s with toks := s.toks + 1 } → wpAny (model X.prog X.w) X.A (f (.int i t)) Q E s) :
    UnR X f (rU fun i => .int (g i)) := by
  intro pins s σ H x v Q I rx h
  obtain ⟨i, rfl, q⟩ := h
  obtain ⟨t, rfl⟩ := rx
  exact rule i t s _ _ ⟨.int (g i), H, I.tok _, ⟨_, rfl⟩, q⟩
theorem un_neg : UnR X (unaryOp .USub) (rU fun i => .int (-i)) := unI fun _ _ _ _ _ q => neg_int q

/-! ### bools among ints: n += (a < b) -/
end

/-! ### comparisons -/
/-- the scalars that == tells apart as data does -/
noncomputable def scal : V → V → Bool
  | .non, .non => true | .non, .int _ => true | .int _, .non => true | .non, .bl _ => true | .bl _, .non => true | .non, .str _ => true | .str _, .non => true
  | .int _, .int _ => true | .bl _, .bl _ => true | .str _, .str _ => true | .byt _, .byt _ => true
  | .int _, .str _ => true | .str _, .int _ => true | .bl _, .str _ => true | .str _, .bl _ => true
  | _, _ => false
noncomputable def rEq : R2 := fun x y H Q => scal x y = true ∧ Q (.bl (decide (x = y))) H

theorem dec_int {i j : Int} : decide (V.int i = V.int j) = (i == j) := by
  rw [Bool.eq_iff_iff]
  simp
theorem dec_bl {i j : Bool} : decide (V.bl i = V.bl j) = (i == j) := by
  rw [Bool.eq_iff_iff]
  simp
theorem dec_str {i j : Str} : decide (V.str i = V.str j) = (i == j) := by
  rw [Bool.eq_iff_iff]
  simp
theorem dec_byt {i j : Array UInt8} : decide (V.byt i = V.byt j) = (i.toList == j.toList) := by
  rw [Bool.eq_iff_iff]
  cases i
  cases j
  simp

section
variable {X : Cx} {a b c : Expr} {ta tb tc : TE} {pos : Pos}
theorem fin_bl {pins : List (Addr × Obj)} {σ : St} {H : Hp} {s : Shared} {Q : VK} {k k' : Bool} (I : Inv X pins σ H s) (q : Q (.bl k) H) (e : k = k') : EP X pins σ Q (.bool k') s := by
  subst e
  exact ⟨.bl k, H, I, rfl, q⟩
theorem op_eq : OpR X (compareOp .Eq) rEq := by
  intro pins s σ H x y v u Q I rx ry h
  obtain ⟨hs, q⟩ := h
  cases x with
  | non =>
    cases rx
    cases y with
    | non => cases ry; exact PySem.EqNone.eq_none_none (fin_bl I q (by simp))
    | bl j => cases ry; exact PySem.EqNone.eq_none_bool (fin_bl I q (by simp))
    | int j => obtain ⟨t', rfl⟩ := ry; exact PySem.EqNone.eq_none_int (fin_bl I q (by simp))
    | str j => obtain ⟨t', rfl⟩ := ry; exact PySem.EqNone.eq_none_str (fin_bl I q (by simp))
    | _ => exact absurd (show false = true from hs) Bool.false_ne_true
  | bl i =>
    cases rx
    cases y with
    | non => cases ry; exact PySem.EqNone.eq_bool_none (fin_bl I q (by simp))
    | bl j => cases ry; exact eq_bool (fin_bl I q dec_bl)
    | str j => obtain ⟨t', rfl⟩ := ry; exact PySem.EqMixed.eq_bool_str (fin_bl I q (by simp))
    | _ => exact absurd (show false = true from hs) Bool.false_ne_true
  | int i =>
    obtain ⟨t, rfl⟩ := rx
    cases y with
    | non => cases ry; exact PySem.EqNone.eq_int_none (fin_bl I q (by simp))
    | int j => obtain ⟨t', rfl⟩ := ry; exact eq_int (fin_bl I q dec_int)
    | str j => obtain ⟨t', rfl⟩ := ry; exact PySem.EqMixed.eq_int_str (fin_bl I q (by simp))
    | _ => exact absurd (show false = true from hs) Bool.false_ne_true
  | str i =>
    obtain ⟨t, rfl⟩ := rx
    cases y with
    | non => cases ry; exact PySem.EqNone.eq_str_none (fin_bl I q (by simp))
    | bl j => cases ry; exact PySem.EqMixed.eq_str_bool (fin_bl I q (by simp))
    | int j => obtain ⟨t', rfl⟩ := ry; exact PySem.EqMixed.eq_str_int (fin_bl I q (by simp))
    | str j => obtain ⟨t', rfl⟩ := ry; exact eq_str (fin_bl I q dec_str)
    | _ => exact absurd (show false = true from hs) Bool.false_ne_true
  | byt i =>
    obtain ⟨t, rfl⟩ := rx
    cases y with
    | byt j => obtain ⟨t', rfl⟩ := ry; exact PySem.W.eq_bytes (fin_bl I q dec_byt)
    | _ => exact absurd (show false = true from hs) Bool.false_ne_true
  | _ => cases y <;> exact absurd (show false = true from hs) Bool.false_ne_true

theorem op_lt : OpR X (compareOp .Lt) (rI0 fun i j => .bl (decide (i < j))) := opB0 fun _ _ _ _ _ _ _ q => lt_int q
theorem op_gt : OpR X (compareOp .Gt) (rI0 fun i j => .bl (decide (j < i))) := opB0 fun _ _ _ _ _ _ _ q => gt_int q
theorem op_ge : OpR X (compareOp .GtE) (rI0 fun i j => .bl (decide (j ≤ i))) := opB0 fun _ _ _ _ _ _ _ q => ge_int q




theorem nomark (b : Expr) {op : CmpOp} (h : op ≠ .In := by decide) (h2 : op ≠ .NotIn := by decide) : behindInMarks op b = false := by
  have e1 : (op == CmpOp.In) = false := by cases op <;> first | rfl | exact absurd rfl h
  have e2 : (op == CmpOp.NotIn) = false := by cases op <;> first | rfl | exact absurd rfl h2
  cases b <;> simp [behindInMarks, e1, e2]
/-- a comparison as a value; hm: nomark b, or (for in, not in) by with_unfolding_all rfl -/
theorem pe_cmpR {op : CmpOp} {r : R2} (ho : OpR X (compareOp op) r) (ha : PE X a ta) (hb : PE X b tb) (hm : behindInMarks op b = false) : PE X (.Compare a [op] [b] pos) (tOp r ta tb) := by
  intro pins s σ H Q I h
  exact wpAny_Compare1 (binT ha hb I h fun v u s2 x y H2 I2 rx ry q => ho pins s2 σ H2 x y v u Q I2 rx ry q) hm
/-- a reading of a value as a test -/
noncomputable def tTest (t : TE) : TT := fun σ H Q => t σ H fun x H' => ∃ k, x = .bl k ∧ Q k H'
theorem pt_cmpR {op : CmpOp} {r : R2} (ho : OpR X (compareOp op) r) (ha : PE X a ta) (hb : PE X b tb) (hm : behindInMarks op b = false) : PT X (.Compare a [op] [b] pos) (tTest (tOp r ta tb)) := by
  intro pins s σ H Q I h
  refine wpAny_isTrue_Compare1 (thn (ha pins s σ H _ I h) fun v s1 ⟨x, H1, I1, r1, q1⟩ => thn (hb pins s1 σ H1 _ I1 q1) fun u s2 ⟨y, H2, I2, r2, q2⟩ =>
    thn (ho pins s2 σ H2 x y v u _ I2 r1 r2 q2) fun c s3 ⟨z, H3, I3, r3, k, e, q3⟩ => ?_) hm
  subst e
  cases r3
  exact wpAny_truthy_bool ⟨H3, I3, q3⟩

/-! ### truth -/
/-- a value's truth by the abstract heap -/
noncomputable def TruV (K : PySem.W.Frag) (x : V) (H : Hp) (k : Bool) : Prop :=
  match x with
  | .non => k = false
  | .bl b => k = b
  | .int i => k = (i != 0)
  | .str y => y.length ≤ sizeLine ∧ k = ((y.length : Int) != 0)
  | .byt y => y.size ≤ sizeLine ∧ k = ((y.size : Int) != 0)
  | .ref p => (∃ xs, SqL K H p xs ∧ k = !xs.isEmpty) ∨ (∃ xs, SqT K H p xs ∧ k = !xs.isEmpty) ∨ ∃ kvs, H p = some (.dK kvs) ∧ k = !kvs.isEmpty
  | _ => False
theorem isEmpty_kv {κ : Type} {kvs : List (κ × V)} {vs : List (κ × Value)} (r : KV kvs vs) : (!vs.isEmpty) = !kvs.isEmpty := by
  cases r <;> rfl
theorem isEmpty_of {xs : List V} {its : List Value} (r : Vals xs its) : (!its.toArray.isEmpty) = !xs.isEmpty := by
  cases r <;> simp
theorem line63 : (sizeLine : Nat) < 2 ^ 63 := by rw [sizeLine_eq]; decide
theorem tru_ok : TruR X (fun x H Q => ∃ k, TruV X.K x H k ∧ Q k H) := by
  intro pins s σ H x v Q I rx h
  obtain ⟨k, e, q⟩ := h
  have hl := line63
  have hs : sizeLine = 16777216 := sizeLine_eq
  cases x with
  | non =>
    cases rx
    have e' : k = false := e
    subst e'
    exact truthy_none ⟨H, I, q⟩
  | bl b =>
    cases rx
    have e' : k = b := e
    subst e'
    exact wpAny_truthy_bool ⟨H, I, q⟩
  | int i =>
    obtain ⟨t, rfl⟩ := rx
    have e' : k = (i != 0) := e
    subst e'
    exact PySem.P.truthy_int ⟨H, I, q⟩
  | str y =>
    obtain ⟨t, rfl⟩ := rx
    obtain ⟨hy, e'⟩ : y.length ≤ sizeLine ∧ k = ((y.length : Int) != 0) := e
    subst e'
    exact PySem.P.truthy_str (by omega) ⟨H, I.tok _, q⟩
  | byt y =>
    obtain ⟨t, rfl⟩ := rx
    obtain ⟨hy, e'⟩ : y.size ≤ sizeLine ∧ k = ((y.size : Int) != 0) := e
    subst e'
    exact PySem.W.truthy_bytes (by omega) ⟨H, I.tok _, q⟩
  | ref p =>
    cases rx
    have e' : (∃ xs, SqL X.K H p xs ∧ k = !xs.isEmpty) ∨ (∃ xs, SqT X.K H p xs ∧ k = !xs.isEmpty) ∨ ∃ kvs, H p = some (.dK kvs) ∧ k = !kvs.isEmpty := e
    rcases e' with ⟨xs, hx, e'⟩ | ⟨xs, hx, e'⟩ | ⟨kvs, hx, e'⟩
    · subst e'
      obtain ⟨its, r, pl, hz⟩ := I.list hx
      have hlen := r.length
      exact wpAny_truthy_list pl.isList (by simp only [List.size_toArray]; omega) ⟨H, I.tok _, by rw [isEmpty_of r]; exact q⟩
    · subst e'
      obtain ⟨its, r, pl, hz⟩ := I.tuple hx
      have hlen := r.length
      exact truthy_tuple pl (by simp only [List.size_toArray]; omega) ⟨H, I.tok _, by rw [isEmpty_of r]; exact q⟩
    · subst e'
      obtain ⟨hz, hS, vs, r, m⟩ : kvs.length ≤ sizeLine ∧ (p == sysModules) = false ∧ ∃ vs, KV kvs vs ∧ s.heap.DictOf (mixKind X.prog X.w) p vs := I.hok p _ hx
      have hlen : kvs.length = vs.length := Paired.length r
      exact wpAny_truthy_dict hS m (by omega) ⟨H, I.tok _, by rw [isEmpty_kv r]; exact q⟩
  | _ => exact (show False from e).elim
/-- any expression whose test is its value's truth (a name, a call, a subscript, a field ..: he by fun _ => rfl) -/
theorem pt_truth (ha : PE X a ta) (he : ∀ whole, isTrue a X.env whole = (do let v ← whole; standAt a.pos; holding [v] (truthy v))) :
    PT X a (fun σ H Q => ta σ H fun x H' => ∃ k, TruV X.K x H' k ∧ Q k H') := by
  intro pins s σ H Q I h
  exact isTrue_plain (thn (ha pins s σ H _ I h) fun v s1 ⟨x, H1, I1, r1, q1⟩ => tru_ok pins s1 σ H1 x v Q I1 r1 q1) (he _)

/-! ### strs and bytes -/


/-! ### scalar builtins, by CallR -/
theorem vals1 {x : V} {us : List Value} (r : Vals [x] us) : ∃ u, us = [u] ∧ RelV x u := by
  cases r with
  | cons r1 r2 => cases r2; exact ⟨_, rfl, r1⟩
theorem vals2 {x y : V} {us : List Value} (r : Vals [x, y] us) : ∃ u w', us = [u, w'] ∧ RelV x u ∧ RelV y w' := by
  cases r with
  | cons r1 r2 =>
    cases r2 with
    | cons r3 r4 => cases r4; exact ⟨_, _, rfl, r1, r3⟩
theorem call_min2 (hc : X.calm = true) : CallR X (.builtin "min") (fun xs H Q => ∃ i j, xs = [.int i, .int j] ∧ Q (.int (if j < i then j else i)) H) := by
  intro pins s σ H xs us Q I r h
  obtain ⟨i, j, rfl, q⟩ := h
  obtain ⟨u, w', rfl, ⟨t, rfl⟩, ⟨t', rfl⟩⟩ := vals2 r
  refine min_two_ints (I.ok.hd hc) fun h' tk k => ⟨_, H, I.kept k, ?_, q⟩
  by_cases hj : j < i
  · rw [if_pos hj, if_pos hj]; exact ⟨_, rfl⟩
  · rw [if_neg hj, if_neg hj]; exact ⟨_, rfl⟩
theorem call_int1 : CallR X (.type "int") (fun xs H Q => (∃ i, xs = [.int i] ∧ Q (.int i) H) ∨ ∃ k, xs = [.bl k] ∧ Q (.int (if k then 1 else 0)) H) := by
  intro pins s σ H xs us Q I r h
  rcases h with ⟨i, rfl, q⟩ | ⟨k, rfl, q⟩
  · obtain ⟨u, rfl, t, rfl⟩ := vals1 r
    exact call_int_int ⟨.int i, H, I, ⟨_, rfl⟩, q⟩
  · obtain ⟨u, rfl, r1⟩ := vals1 r
    cases r1
    exact call_int_bool ⟨.int (if k then 1 else 0), H, I.tok _, ⟨_, rfl⟩, q⟩
end
end L2

namespace L2
open PySem PySem.Spec PyProof.Rows

/-! ### an instance, its attributes a map -/
structure ObjM (h : Heap) (x dx C : Addr) (mA : Str → Option Value) : Prop where
  obj : h.get? x = some (PySem.W.instObj C dx)
  ns : h.Ns1 dx mA
  ne : dx ≠ x

theorem lookIn_ns {h : Heap} {dx : Addr} {mA : Str → Option Value} (n : h.Ns1 dx mA) : ∃ od, h.get? dx = some od ∧ ∀ name, PySem.W.lookIn name od = some (mA name) := by
  obtain ⟨o, es, ep, ho, hd, hk, _, hm⟩ := n
  refine ⟨o, ho, fun name => ?_⟩
  have e := hm name
  unfold nsFind findBy at e
  rw [← Array.find?_toList] at e
  unfold PySem.W.lookIn
  rw [hd]
  dsimp only
  split
  · rename_i y q
    rw [q] at e
    exact congrArg some e
  · rename_i q
    rw [q] at e
    have a : es.toList.any (·.refKey) = false := by
      rw [List.any_eq_false]
      intro y hy
      obtain ⟨z, t, hkey⟩ := hk y (Array.mem_toList_iff.mp hy)
      simp [DictEntry.refKey, hkey]
    have a' : ¬ es.toList.any (·.refKey) = true := by rw [a]; exact Bool.false_ne_true
    rw [if_neg a']
    exact congrArg some e

theorem ObjM.look {h : Heap} {x dx C : Addr} {mA : Str → Option Value} (I : ObjM h x dx C mA) : ∃ od, PySem.W.InstAt h x (PySem.W.instObj C dx) C (some od) ∧ ∀ name, PySem.W.lookIn name od = some (mA name) :=
  let ⟨od, ho, hl⟩ := lookIn_ns I.ns
  ⟨od, ⟨I.obj, rfl, rfl, ho⟩, hl⟩

section
variable {prog : Program} {w : World} {A : Around} {E : Value → Shared → Prop} {s : Shared} {K : PySem.W.Frag} {x dx C f : Addr} {mA : Str → Option Value} {name : Str} {v : Value}

theorem get_map {expr : Bool} {Q : Value → Shared → Prop} (X : K.In s.heap) (I : ObjM s.heap x dx C mA) (hg : PySem.W.plainGet K C name = true) (hh : PySem.W.hasDictIn K C = true)
    (ha : PySem.W.findIn K (.ref C) name = some none) (hv : mA name = some v) (hv' : PySem.W.handedIn v = true) (h : Q v { s with toks := s.toks + 1 }) :
    wpAny (model prog w) A (getAttr (.ref x) name expr) Q E s := by
  obtain ⟨od, J, hl⟩ := I.look
  exact PySem.W.get_value X J (PySem.W.plainGet_of hg).1 (PySem.W.findObj_own hh ha rfl (by rw [hl, hv])) hv' h


theorem get_meth {pl : Sem Bool} {Q : Value × List Value → Shared → Prop} (X : K.In s.heap) (I : ObjM s.heap x dx C mA) (hg : PySem.W.plainGet K C name = true)
    (hf : PySem.W.findIn K (.ref C) name = some (some (.ref f))) (ht : PySem.W.isFn K (.ref f) = true) (hv : mA name = none) (h : Q (.ref f, [.ref x]) s) :
    wpAny (model prog w) A (getMethod (.ref x) name pl) Q E s := by
  obtain ⟨od, J, hl⟩ := I.look
  exact PySem.W.method_fn X J (PySem.W.plainGet_of hg).1 (PySem.W.plainGet_of hg).2 hf (beq_iff_eq.mp ht) (by show (PySem.W.lookIn name od).map (·.isSome) = some false; rw [hl, hv]; rfl) h

theorem set_map {ns : List Str} {Q : Unit → Shared → Prop} (X : K.In s.heap) (I : ObjM s.heap x dx C mA)
    (hs : PySem.W.findIn K (.ref C) "__setattr__" = some (some (.builtin "object.__setattr__"))) (hp : PySem.W.plainOver K C = true) (ht : PySem.W.takerIn K C name = some none) (hh : PySem.W.hasDictIn K C = true)
    (hw : PySem.Within mA ns) (hsz : ns.length ≤ sizeLine)
    (h : ∀ h', ObjM h' x dx C (fun y => if y = name then some v else mA y) → Heap.SameBut dx s.heap h' → Q () { s with heap := h', toks := s.toks + 2 }) :
    wpAny (model prog w) A (setAttr (.ref x) name v) Q E s := by
  obtain ⟨od, J, hl⟩ := I.look
  refine PySem.W.set_plain X J hs (PySem.W.osa_open (s := { s with toks := s.toks + 1 }) (r := none) X J hp ht fun b => ?_)
  obtain ⟨cd, hc, hd'⟩ := PySem.W.any_some hh
  have hx : s.heap.get? x = some ⟨.ref C, some dx, .plain, #[]⟩ := I.obj
  refine wpAny_bind (wpAny_pure (wpAny_bind (wpAny_bind (wpAny_loadPart hx (wpAny_bind (PySem.W.Looks.here (s := { s with toks := s.toks + 1 }) (PySem.W.looks_clsIn X hc) ?_))))))
  rw [hd']
  refine wpAny_pure (a := some dx) (wpAny_bind (wpAny_pure (wpAny_bind ?_)))
  refine wpAny_nsSet1 (s := { s with toks := s.toks + 1 }) I.ns fun h' hn2 hs2 => ?_
  obtain ⟨oD, esD, epD, hoD, hdD, hcD⟩ := hn2.count (PySem.Within.cons name v hw)
  refine wpAny_bind (wpAny_lookBehind hoD (by rw [hdD]; exact pastItsLine_dict (Nat.le_trans hcD (by rw [List.length_cons]; omega))) ?_)
  exact wpAny_pure (h _ ⟨(hs2.2 _ (Ne.symm I.ne)).trans I.obj, hn2, I.ne⟩ hs2)

/-- C(..): the dict at the heap's end, the instance behind it; then its __init__ -/
theorem make_map {R : Result → Shared → Prop} {vs : List Value} {kw : List (Str × Value)} (X : K.In s.heap) (hm : PySem.W.makesIn K C = true)
    (hi : PySem.W.findIn K (.ref C) "__init__" = some (some (.ref f))) (hf : PySem.W.typeIn K (.ref f) = some (.type "function"))
    (h : codeAny (model prog w) (A.under (.builtin "type.__call__" ⟨.ref C :: vs, kw⟩)) (.call (.ref f) ⟨.ref (s.heap.objs.size + 1) :: vs, kw⟩) (PySem.W.InitBack (s.heap.objs.size + 1) R)
      { s with heap := (s.heap.push PySem.W.emptyDict).push (PySem.W.instObj C s.heap.objs.size) }) :
    codeAny (model prog w) A (.call (.ref C) ⟨vs, kw⟩) R s := by
  obtain ⟨hh, g, d, t, os⟩ := s
  exact PySem.W.make_core (PySem.W.makes_of X hm) (PySem.W.looks_findIn X hi) (fun self => PySem.W.bind_fn X self hf) (.inl rfl) h
end

/-! ### the attributes as a list of pairs -/
noncomputable def putF (f : Str) (v : V) : List (Str × V) → List (Str × V)
  | [] => [(f, v)]
  | (g, x) :: r => if g = f then (g, v) :: r else (g, x) :: putF f v r
theorem lookup_putF (f g : Str) (v : V) : ∀ fs : List (Str × V), (putF f v fs).lookup g = if g = f then some v else fs.lookup g
  | [] => by
    show List.lookup g [(f, v)] = _
    by_cases h : g = f
    · have hb : (g == f) = true := beq_iff_eq.mpr h
      simp only [List.lookup, hb, if_pos h]
    · have hb : (g == f) = false := beq_eq_false_iff_ne.mpr h
      simp only [List.lookup, hb, if_neg h]
  | (k, x) :: r => by
    have ih := lookup_putF f g v r
    rw [show putF f v ((k, x) :: r) = (if k = f then (k, v) :: r else (k, x) :: putF f v r) from rfl]
    by_cases hk : k = f
    · rw [if_pos hk]
      by_cases h : g = k
      · have hb : (g == k) = true := beq_iff_eq.mpr h
        simp only [List.lookup, hb, if_pos (h.trans hk)]
      · have hb : (g == k) = false := beq_eq_false_iff_ne.mpr h
        simp only [List.lookup, hb, if_neg (fun e : g = f => h (e.trans hk.symm))]
    · rw [if_neg hk]
      by_cases h : g = k
      · have hb : (g == k) = true := beq_iff_eq.mpr h
        simp only [List.lookup, hb, if_neg (fun e : g = f => hk (h.symm.trans e))]
      · have hb : (g == k) = false := beq_eq_false_iff_ne.mpr h
        simp only [List.lookup, hb]
        exact ih
theorem keys_putF (f : Str) (v : V) : ∀ fs : List (Str × V), f ∈ (putF f v fs).map (·.1) ∧ ∀ g, g ∈ fs.map (·.1) → g ∈ (putF f v fs).map (·.1)
  | [] => ⟨by simp [putF], fun g h => by simp at h⟩
  | (k, x) :: r => by
    obtain ⟨i1, i2⟩ := keys_putF f v r
    rw [show putF f v ((k, x) :: r) = (if k = f then (k, v) :: r else (k, x) :: putF f v r) from rfl]
    by_cases hk : k = f
    · rw [if_pos hk]
      subst hk
      exact ⟨by simp, fun g h => by simpa using h⟩
    · rw [if_neg hk]
      refine ⟨?_, fun g h => ?_⟩
      · rw [List.map_cons]
        exact List.mem_cons_of_mem _ i1
      · rw [List.map_cons] at h ⊢
        rcases List.mem_cons.mp h with e | e
        · exact List.mem_cons.mpr (.inl e)
        · exact List.mem_cons_of_mem _ (i2 g e)
theorem length_putF (f : Str) (v : V) : ∀ fs : List (Str × V), (putF f v fs).length ≤ fs.length + 1
  | [] => by simp [putF]
  | (k, x) :: r => by
    have ih := length_putF f v r
    rw [show putF f v ((k, x) :: r) = (if k = f then (k, v) :: r else (k, x) :: putF f v r) from rfl]
    by_cases hk : k = f
    · rw [if_pos hk, List.length_cons, List.length_cons]; omega
    · rw [if_neg hk, List.length_cons, List.length_cons]; omega

theorem RelO.some_of {v : V} {o : Option Value} (r : RelO (some v) o) : ∃ u, o = some u ∧ RelV v u := by
  cases o with
  | none => exact (show False from r).elim
  | some u => exact ⟨u, rfl, r⟩
theorem RelO.none_of {o : Option Value} (r : RelO none o) : o = none := by
  cases o with
  | none => rfl
  | some u => exact (show False from r).elim
theorem handed_of {v : V} {u : Value} (r : RelV v u) : PySem.W.handedIn u = true := by
  cases v with
  | non => cases (show u = Value.none from r); rfl
  | bl b => cases (show u = Value.bool b from r); rfl
  | int i => obtain ⟨t, e⟩ := (show ∃ t, u = Value.int i t from r); cases e; rfl
  | str x => obtain ⟨t, e⟩ := (show ∃ t, u = Value.str x t from r); cases e; rfl
  | byt b => obtain ⟨t, e⟩ := (show ∃ t, u = Value.bytes b t from r); cases e; rfl
  | flt b => obtain ⟨t, e⟩ := (show ∃ t, u = Value.float b t from r); cases e; rfl
  | ref a => cases (show u = Value.ref a from r); rfl
  | ty n => cases (show u = Value.type n from r); rfl

section
variable {P : Program} {w : World} {H H' : Hp} {h h' : Heap} {a C dx : Addr} {fs fs' : List (Str × V)}
theorem ins_get (hok : HOk P w H h) (e : H a = some (.ins C dx fs)) : ∃ mA, ObjM h a dx C mA ∧ (∀ f, RelO (fs.lookup f) (mA f)) ∧ PySem.Within mA (fs.map (·.1)) ∧ fs.length ≤ 1000 ∧ H dx = some (.own a) := by
  obtain ⟨d, z, ne, ob, mA, n, r, q⟩ := (show ObjOk P w H h a (.ins C dx fs) from hok a _ e)
  exact ⟨mA, ⟨ob, n, ne⟩, r, q, z, d⟩
end

/-! ### what of the text a class must have -/
structure Cls (K : PySem.W.Frag) (C : Addr) : Prop where
  pg : PySem.W.plainGet K C Str.empty = true
  hd : PySem.W.hasDictIn K C = true
  po : PySem.W.plainOver K C = true
  sa : PySem.W.findIn K (.ref C) "__setattr__" = some (some (.builtin "object.__setattr__"))
theorem Cls.get {K : PySem.W.Frag} {C : Addr} (c : Cls K C) (f : Str) : PySem.W.plainGet K C f = true := c.pg
/-- no class of it has the name -/
noncomputable def NoAttr (K : PySem.W.Frag) (C : Addr) (f : Str) : Prop := PySem.W.findIn K (.ref C) f = some none
theorem NoAttr.taker {K : PySem.W.Frag} {C : Addr} {f : Str} (n : NoAttr K C f) : PySem.W.takerIn K C f = some none := by
  unfold PySem.W.takerIn
  rw [show PySem.W.findIn K (.ref C) f = some none from n]
  rfl
/-- a method: a plain def of the class or of one above it -/
structure Meth (K : PySem.W.Frag) (C : Addr) (m : Str) (f : Addr) : Prop where
  at_ : PySem.W.findIn K (.ref C) m = some (some (.ref f))
  fn : PySem.W.isFn K (.ref f) = true
  kp : PySem.W.keepIn K (.ref f) = true

section
variable {X : Cx} {pins : List (Addr × Obj)} {σ : St} {H : Hp} {s : Shared} {a C dx : Addr} {fs : List (Str × V)} {f : Str} {v : V} {A : Around} {E : Value → Shared → Prop}

theorem getattr_ok {b : Bool} {Q : Value → Shared → Prop} (I : Inv X pins σ H s) (e : H a = some (.ins C dx fs)) (c : Cls X.K C) (n : NoAttr X.K C f) (l : fs.lookup f = some v)
    (h : ∀ u s', Inv X pins σ H s' → RelV v u → Q u s') : wpAny (model X.prog X.w) A (getAttr (.ref a) f b) Q E s := by
  obtain ⟨mA, O, r, _, _, _⟩ := ins_get I.hok e
  obtain ⟨u, hu, ru⟩ := RelO.some_of (v := v) (o := mA f) (by rw [← l]; exact r f)
  exact get_map I.kIn O (c.get f) c.hd n hu (handed_of ru) (h u _ (I.tok _) ru)


theorem getmeth_ok {m : Str} {g : Addr} {pl : Sem Bool} {Q : Value × List Value → Shared → Prop} (I : Inv X pins σ H s) (e : H a = some (.ins C dx fs)) (c : Cls X.K C) (k : Meth X.K C m g) (l : fs.lookup m = none)
    (h : Q (.ref g, [.ref a]) s) : wpAny (model X.prog X.w) A (getMethod (.ref a) m pl) Q E s := by
  obtain ⟨mA, O, r, _, _, _⟩ := ins_get I.hok e
  have hn : mA m = none := RelO.none_of (by rw [← l]; exact r m)
  exact get_meth I.kIn O (c.get m) k.at_ k.fn hn h

theorem setattr_ok {y : V} {u : Value} {Q : Unit → Shared → Prop} (I : Inv X pins σ H s) (e : H a = some (.ins C dx fs)) (c : Cls X.K C) (n : NoAttr X.K C f) (hl : fs.length < 1000) (ry : RelV y u)
    (h : ∀ s', Inv X pins σ (upd H a (.ins C dx (putF f y fs))) s' → Q () s') : wpAny (model X.prog X.w) A (setAttr (.ref a) f u) Q E s := by
  obtain ⟨mA, O, r, wi, _, ho⟩ := ins_get I.hok e
  have hz : (fs.map (·.1)).length ≤ sizeLine := by rw [List.length_map, sizeLine_eq]; omega
  refine set_map I.kIn O c.sa c.po n.taker c.hd wi hz fun h' O' sb => h _ ?_
  have hd : ∃ o, h'.get? dx = some o := let ⟨o, _, _, e', _⟩ := O'.ns; ⟨o, e'⟩
  refine I.write (x := a) (e := dx) (by rw [e]; exact True.intro) (.inr ho) (fun b q hb z => (sb.2 b hb).trans z) hd ?_
  refine ⟨by rw [upd_ne O.ne]; exact ho, ?_, O.ne, O'.obj, _, O'.ns, fun g => ?_, fun g hg => ?_⟩
  · have := length_putF f y fs; omega
  · show RelO ((putF f y fs).lookup g) (if g = f then some u else mA g)
    rw [lookup_putF]
    by_cases q : g = f
    · rw [if_pos q, if_pos q]; exact ry
    · rw [if_neg q, if_neg q]; exact r g
  · by_cases q : g = f
    · rw [q]; exact (keys_putF f y fs).1
    · refine (keys_putF f y fs).2 g (wi g fun z => hg ?_)
      show (if g = f then some u else mA g) = none
      rw [if_neg q]; exact z

/-- a new instance, tracked, without attributes -/
theorem Inv.made (I : Inv X pins σ H s) : Inv X pins σ (upd (upd H s.heap.objs.size (.own (s.heap.objs.size + 1))) (s.heap.objs.size + 1) (.ins C s.heap.objs.size []))
    { s with heap := (s.heap.push PySem.W.emptyDict).push (PySem.W.instObj C s.heap.objs.size) } := by
  have e1 : (s.heap.push PySem.W.emptyDict).get? s.heap.objs.size = some PySem.W.emptyDict := Heap.get?_push_size s.heap rfl
  have e2 : ((s.heap.push PySem.W.emptyDict).push (PySem.W.instObj C s.heap.objs.size)).get? (s.heap.objs.size + 1) = some (PySem.W.instObj C s.heap.objs.size) := by
    have := Heap.get?_push_size (s.heap.push PySem.W.emptyDict) (o := PySem.W.instObj C s.heap.objs.size) rfl
    rwa [Heap.size_push] at this
  have e3 : (s.heap.push PySem.W.emptyDict).Ns s.heap.objs.size (fun _ => none) := ⟨PySem.W.emptyDict, #[], _, e1, rfl, (fun e he => absurd he (by simp)), fun _ => rfl⟩
  have I1 := I.laid (a := s.heap.objs.size) (o := .own (s.heap.objs.size + 1)) (h' := s.heap.push PySem.W.emptyDict) (t' := s.toks) (fun b u q => Heap.get?_push_of_some _ q) (Nat.le_refl _) ⟨_, e1⟩
  refine I1.laid (a := s.heap.objs.size + 1) (o := .ins C s.heap.objs.size []) (t' := s.toks) (fun b u q => Heap.get?_push_of_some _ q) (Nat.le_of_eq (Heap.size_push _ _)) ?_
  have ne : s.heap.objs.size ≠ s.heap.objs.size + 1 := Nat.ne_of_lt (Nat.lt_succ_self _)
  refine ⟨by rw [upd_ne ne, upd_same], Nat.zero_le _, ne, e2, fun _ => none, (Heap.Ns1.of_empty e3).at fun o q => Heap.get?_push_of_some _ q, fun _ => True.intro, fun y hy => absurd rfl hy⟩

/-- e.f where nothing but the object is asked: through attributeBase (super) and the last hold -/
theorem attr_of {prog : Program} {w : World} {env : Env} {e : Expr} {f : Str} {pos : Pos} {s : Shared} {Q : Value → Shared → Prop} (hb : attributeBase e f env (eval e env) = eval e env)
    (h : wpAny (model prog w) A (eval e env) (fun o s₁ => wpAny (model prog w) A (getAttr o f true) Q E s₁) E s) : wpAny (model prog w) A (eval (.Attribute e f pos) env) Q E s :=
  Attribute_any_ h (by rw [arm_eval_Attribute, hb])
end

/-! ### readings and rules -/
/-- e.f, an attribute of the instance -/
noncomputable def tFld (K : PySem.W.Frag) (ta : TE) (f : Str) : TE := fun σ H Q => ta σ H fun x H1 => ∃ a C dx fs v, x = .ref a ∧ H1 a = some (.ins C dx fs) ∧ Cls K C ∧ NoAttr K C f ∧ fs.lookup f = some v ∧ Q v H1
/-- e.f = value -/
noncomputable def sFld (K : PySem.W.Frag) (ta tv : TE) (f : Str) : TS := fun D σ H => tv σ H fun y H1 => ta σ H1 fun x H2 => ∃ a C dx fs, x = .ref a ∧ H2 a = some (.ins C dx fs) ∧ Cls K C ∧ NoAttr K C f ∧ fs.length < 1000 ∧
  D.nx σ (upd H2 a (.ins C dx (putF f y fs)))
/-- an augmented operator on two values -/
noncomputable def InOp (X : Cx) (op : Operator) (rd : V → V → Hp → VK → Prop) : Prop :=
  ∀ (pins : List (Addr × Obj)) (s : Shared) (σ : St) (H : Hp) (x y : V) (u v : Value) (Q : VK), Inv X pins σ H s → RelV x u → RelV y v → rd x y H Q → wpAny (model X.prog X.w) X.A (inplaceOp op u v) (EP X pins σ Q) X.xe s
/-- e.f op= value -/
noncomputable def sFldAug (K : PySem.W.Frag) (ta tv : TE) (rd : V → V → Hp → VK → Prop) (f : Str) : TS := fun D σ H => ta σ H fun x H1 => ∃ a C dx fs v, x = .ref a ∧ H1 a = some (.ins C dx fs) ∧ Cls K C ∧ NoAttr K C f ∧ fs.lookup f = some v ∧
  tv σ H1 fun y H2 => rd v y H2 fun z H3 => ∃ dx' fs', H3 a = some (.ins C dx' fs') ∧ fs'.length < 1000 ∧ D.nx σ (upd H3 a (.ins C dx' (putF f z fs')))

section
variable {X : Cx} {o e value : Expr} {f : Str} {pos pos' tpos : Pos} {ta tv : TE}
theorem pe_fld (he : PE X e ta) (hb : attributeBase e f X.env (eval e X.env) = eval e X.env) : PE X (.Attribute e f pos) (tFld X.K ta f) := by
  intro pins s σ H Q I h
  refine attr_of hb (thn (he pins s σ H _ I h) fun u s1 ⟨x, H1, I1, rx, a, C, dx, fs, v, ex, ea, c, n, l, q⟩ => ?_)
  subst ex
  obtain rfl : u = Value.ref a := rx
  exact getattr_ok I1 ea c n l fun u' s2 I2 ru => ⟨v, H1, I2, ru, q⟩
theorem ps_fld (ha : PE X o ta) (hv : PE X value tv) (hs : swapsWith value (some (.Attribute o f pos')) pos.line X.env = pure false) : PS X (.Assign [.Attribute o f pos'] value pos) (sFld X.K ta tv f) := by
  intro pins s σ H D I h
  refine plainObj_wpAny_Assign_Attribute (thn (hv pins s σ H _ I h) fun u s1 ⟨y, H1, I1, ry, q⟩ => thn (ha pins s1 σ H1 _ I1 q) fun ov s2 ⟨x, H2, I2, rx, a, C, dx, fs, ex, ea, c, n, l, q2⟩ => ?_) hs
  subst ex
  obtain rfl : ov = Value.ref a := rx
  exact setattr_ok I2 ea c n l ry fun s3 I3 => ⟨σ, _, I3, q2⟩
theorem ps_fldaug {op : Operator} {rd : V → V → Hp → VK → Prop} (ha : PE X o ta) (hv : PE X value tv) (hop : InOp X op rd) : PS X (.AugAssign (.Attribute o f tpos) op value pos) (sFldAug X.K ta tv rd f) := by
  intro pins s σ H D I h
  refine wpAny_AugAssign_AttributeAny (thn (ha pins s σ H _ I h) fun ov s1 ⟨x, H1, I1, rx, a, C, dx, fs, v, ex, ea, c, n, l, q⟩ => ?_)
  subst ex
  obtain rfl : ov = Value.ref a := rx
  refine getattr_ok I1 ea c n l fun u s2 I2 ru => thn (hv pins s2 σ H1 _ I2 q) fun w3 s3 ⟨y, H2, I3, ry, q3⟩ => thn (hop pins s3 σ H2 v y u w3 _ I3 ru ry q3) fun w4 s4 ⟨z, H3, I4, rz, dx', fs', ea', l', q4⟩ => ?_
  exact setattr_ok I4 ea' c n l' rz fun s5 I5 => ⟨σ, _, I5, q4⟩
noncomputable def rAdd : V → V → Hp → VK → Prop := fun x y H Q => ∃ i j, x = .int i ∧ y = .int j ∧ Q (.int (i + j)) H
theorem in_add : InOp X .Add rAdd := by
  rintro pins s σ H x y u v Q I rx ry ⟨i, j, rfl, rfl, q⟩
  obtain ⟨t, rfl⟩ := (show ∃ t, u = Value.int i t from rx)
  obtain ⟨t', rfl⟩ := (show ∃ t', v = Value.int j t' from ry)
  exact PyProof.Rows.iadd_int ⟨.int (i + j), H, I.tok _, ⟨_, rfl⟩, q⟩

/-- what is between an instance and its method: the tree of a method call -/
theorem methcall_of {pl : Sem Bool} {m : Str} {apos : Pos} {args : List Expr} {pins : List (Addr × Obj)} {s : Shared} {σ : St} {H : Hp} {Q : Value → Shared → Prop} {te : TE} (he : PE X e te) (I : Inv X pins σ H s)
    (h : te σ H fun x H1 => ∃ a C dx fs g, x = .ref a ∧ H1 a = some (.ins C dx fs) ∧ Cls X.K C ∧ Meth X.K C m g ∧ fs.lookup m = none ∧
      ∀ s1, Inv X pins σ H1 s1 → wpAny (model X.prog X.w) X.A (callWith pos (.ref g) [.ref a] (backTo pos (starEach args X.env)) (backToKw pos (keywordEach [] X.env))) Q X.xe s1)
    (ht : eval (.Call (.Attribute e m apos) args [] pos) X.env = (do
      let ov ← eval e X.env
      standAt apos.atName
      let (f, first) ← holding [ov] (getMethod ov m pl)
      callWith pos f first (backTo pos (starEach args X.env)) (backToKw pos (keywordEach [] X.env)))) :
    wpAny (model X.prog X.w) X.A (eval (.Call (.Attribute e m apos) args [] pos) X.env) Q X.xe s := by
  refine PySem.W.methodCall_KW (pl := pl) (thn (he pins s σ H _ I h) fun u s1 ⟨x, H1, I1, rx, a, C, dx, fs, g, ex, ea, c, k, l, q⟩ => ?_) ht
  subst ex
  obtain rfl : u = Value.ref a := rx
  exact getmeth_ok I1 ea c k l (q s1 I1)
end

/-! ### isinstance -/
section
variable {X : Cx} {pins : List (Addr × Obj)} {σ : St} {H : Hp} {s : Shared} {A : Around} {E : Value → Shared → Prop} {Q : Value → Shared → Prop} {c : Value} {b : Bool}
end
end L2

namespace L2
open PySem PySem.Spec PyProof.Rows

/-! ### room -/
structure Room (k : Nat) (A : Around) : Prop where
  hd : A.handled = none
  dp : A.depth + 3 * k + 5 < recursionLimit
  un : A.units + 16 * k + 200 < cLine
theorem Room.mono {j k : Nat} {A : Around} (r : Room k A) (h : j ≤ k) : Room j A := ⟨r.hd, by have := r.dp; omega, by have := r.un; omega⟩
theorem Room.deeper {k : Nat} {A : Around} (r : Room (k + 1) A) (env : Env) : Room k (A.deeper env) :=
  ⟨r.hd, by have := r.dp; show A.depth + 1 + 3 * k + 5 < _; omega, by have := r.un; show A.units + 3 + 16 * k + 200 < _; omega⟩
theorem make_depth {A : Around} {C : Addr} {us : List Value} {kw : List (Str × Value)} : (A.under (.builtin "type.__call__" ⟨.ref C :: us, kw⟩)).depth = A.depth + 1 := by
  first | rfl | simp [Around.under, Code.weight, Code.isCreation, Code.isGuard, Code.isCaller, Code.frames, Code.isFrame, guardIds]
theorem make_units {A : Around} {C : Addr} {us : List Value} {kw : List (Str × Value)} : (A.under (.builtin "type.__call__" ⟨.ref C :: us, kw⟩)).units = A.units + 1 := by
  first | rfl | simp [Around.under, Code.cUnits, Code.frames, Code.isFrame]
theorem Room.make {k : Nat} {A : Around} (r : Room (k + 1) A) (C : Addr) (us : List Value) (kw : List (Str × Value)) : Room k (A.under (.builtin "type.__call__" ⟨.ref C :: us, kw⟩)) :=
  ⟨r.hd, by have := r.dp; rw [make_depth]; omega, by have := r.un; rw [make_units]; omega⟩
theorem Room.depth {k : Nat} {A : Around} (r : Room k A) : A.depth < recursionLimit := by have := r.dp; omega
theorem Room.units {k : Nat} {A : Around} (r : Room k A) : A.units + 64 < cLine := by have := r.un; omega

/-! ### argument lists and displays -/
noncomputable def tNil : TA := fun _ H Q => Q [] H
noncomputable def tCons (ta : TE) (tr : TA) : TA := fun σ H Q => ta σ H fun x H1 => tr σ H1 fun xs H2 => Q (x :: xs) H2
section
variable {X : Cx} {e : Expr} {es : List Expr} {te : TE} {t : TA} {pos : Pos}
theorem pa_nil : PA X [] tNil := fun _ _ _ _ H Q I h => Calls.spliced_nil ⟨[], H, I, .nil, h⟩
theorem pa_cons (ha : PE X e te) (hr : PA X es t) (hs : starEach (e :: es) X.env = (false, eval e X.env) :: starEach es X.env := by rfl) : PA X (e :: es) (tCons te t) := by
  intro pos pins s σ H Q I h
  rw [hs]
  show wpAny _ _ (spliced ((false, eval e X.env) :: backTo pos (starEach es X.env))) _ _ s
  refine Calls.spliced_cons (thn (ha pins s σ H _ I h) fun u s1 ⟨x, H1, I1, r1, q1⟩ => ?_)
  exact thn (hr pos pins s1 σ H1 _ I1 q1) fun us s2 ⟨xs, H2, I2, r2, q2⟩ => ⟨x :: xs, H2, I2, .cons r1 r2, q2⟩

/-- a tuple, a list of written items -/
noncomputable def tTup (t : TA) : TE := fun σ H Q => t σ H fun xs H1 => xs.length ≤ sizeLine ∧ ∀ p, H1 p = none → Q (.ref p) (upd H1 p (.tup xs))
noncomputable def tLst (t : TA) : TE := fun σ H Q => t σ H fun xs H1 => xs.length ≤ sizeLine ∧ ∀ p, H1 p = none → Q (.ref p) (upd H1 p (.lst xs))
theorem pe_tup {x1} (h : PA X es t) : PE X (.Tuple es x1 pos) (tTup t) := by
  intro pins s σ H Q I hq
  refine wpAny_Tuple_spliced (thn (h pos pins s σ H _ I hq) fun us s1 ⟨xs, H1, I1, r, z, q⟩ => ⟨by rw [← r.length]; exact z, ?_⟩)
  have hf : H1 s1.heap.objs.size = none := I1.hok.fresh (Nat.le_refl _)
  refine ⟨.ref s1.heap.objs.size, upd H1 s1.heap.objs.size (.tup xs), I1.laid (t' := s1.toks) (fun b u e => Heap.get?_push_of_some _ e) (Nat.le_refl _) ?_, rfl, q _ hf⟩
  exact ⟨z, us, r, ⟨_, Heap.get?_push_size _ rfl, rfl, _, rfl⟩⟩
theorem pe_lst (h : PA X es t) : PE X (.List es pos) (tLst t) := by
  intro pins s σ H Q I hq
  refine wpAny_List_spliced (thn (h pos pins s σ H _ I hq) fun us s1 ⟨xs, H1, I1, r, z, q⟩ => ⟨by rw [← r.length]; exact z, ?_⟩)
  have hf : H1 s1.heap.objs.size = none := I1.hok.fresh (Nat.le_refl _)
  refine ⟨.ref s1.heap.objs.size, upd H1 s1.heap.objs.size (.lst xs), I1.laid (t' := s1.toks) (fun b u e => Heap.get?_push_of_some _ e) (Nat.le_refl _) ?_, rfl, q _ hf⟩
  exact ⟨z, us, 0, r, Heap.get?_push_size _ rfl⟩
end

/-! ### what a def promises -/
/-- a def's promise: the bound arguments in the parameters' order, the heap, the wanted end, the wanted exception -/
noncomputable abbrev Sp := List V → Hp → VK → XK → Prop
/-- how an exception lies behind a call (file 08 gives it): the callers' frames, abstract heap and state ahead of the call, the wish, the exception, the state -/
noncomputable abbrev CXT := List Env → Hp → Shared → XK → Value → Shared → Prop

/-- the state at a call -/
structure Env0 (P : Program) (w : World) (K : PySem.W.Frag) (mg : Str → Option Value) (base : Heap) (A : Around) (outer : List Env) (s : Shared) (H : Hp) : Prop where
  frames : A.frames = some outer
  mod : Mod K mg base
  bs : ∀ b o, base.get? b = some o → s.heap.get? b = some o ∧ H b = none
  bsz : base.objs.size ≤ s.heap.objs.size
  funs : s.heap.FunFrames base outer
  frf : ∀ b ∈ frs outer, H b = none
  hok : HOk P w H s.heap
  bare : AllBare s.gens
/-- a call's end -/
noncomputable def CE (outer : List Env) (P : Program) (w : World) (H : Hp) (s : Shared) (Q : VK) (u : Value) (s' : Shared) : Prop :=
  ∃ v H', s'.os = s.os ∧ AllBare s'.gens ∧ Un (frs outer) [] H H' s.heap s'.heap ∧ HOk P w H' s'.heap ∧ RelV v u ∧ Q v H'
noncomputable def CR (CX : CXT) (outer : List Env) (P : Program) (w : World) (H : Hp) (s : Shared) (Q : VK) (E : XK) (r : Result) (s' : Shared) : Prop :=
  match r with
  | .ok (.ret u) => CE outer P w H s Q u s'
  | .ok _ => False
  | .error e => CX outer H s E e s'
structure FnOk (P : Program) (w : World) (K : PySem.W.Frag) (mg : Str → Option Value) (base : Heap) (CX : CXT) (k : Nat) (f : Addr) (fd : FuncData) (ps : List Str) (sp : Sp) : Prop where
  len : ∀ vs H Q E, sp vs H Q E → vs.length = ps.length
  run : ∀ (A : Around) (outer : List Env) (s : Shared) (H : Hp) (args : Args) (us : List Value) (vs : List V) (Q : VK) (E : XK), Room k A → Env0 P w K mg base A outer s H → BindsTo s fd args (ps.zip us) → Vals vs us → sp vs H Q E →
    codeAny (model P w) A (.call (.ref f) args) (CR CX outer P w H s Q E) s

theorem Env0.make {P : Program} {w : World} {K : PySem.W.Frag} {mg : Str → Option Value} {base : Heap} {A : Around} {outer : List Env} {s : Shared} {H : Hp} (e : Env0 P w K mg base A outer s H) (C : Addr) (us : List Value) (kw : List (Str × Value)) :
    Env0 P w K mg base (A.under (.builtin "type.__call__" ⟨.ref C :: us, kw⟩)) outer s H := ⟨by first | exact e.frames | (simpa [Around.under, Code.envs, Code.isFrame, pushEnvs] using e.frames), e.mod, e.bs, e.bsz, e.funs, e.frf, e.hok, e.bare⟩

section
variable {X : Cx} {pins : List (Addr × Obj)} {σ : St} {H : Hp} {s s' : Shared}
/-- from a body: what a callee wants -/
theorem Inv.env0 (I : Inv X pins σ H s) : Env0 X.prog X.w X.K X.mg X.base X.A X.stack s H :=
  ⟨I.ok.frames, I.ok.mod, I.bs, Nat.le_trans I.ok.bsz I.sz, I.stack, I.stkFree, I.hok, I.bare⟩
/-- behind a call -/
theorem Inv.after {Q : VK} {u : Value} (I : Inv X pins σ H s) (h : CE X.stack X.prog X.w H s Q u s') : EP X pins σ Q u s' := by
  obtain ⟨v, H', os, bare, un, hok, r, q⟩ := h
  obtain ⟨hh, g, d, t, os'⟩ := s'
  obtain rfl : os' = s.os := os
  exact ⟨v, H', I.call (h' := hh) (g' := g) (d' := d) (t' := t) (ch := []) un hok bare (fun b z => absurd z (by simp)), r, q⟩
end

/-! ### calls -/
/-- f(..): the written arguments, then the defaults dvs; E: what is wanted of an exception -/
noncomputable def tCall (sp : Sp) (dvs : List V) (E : XK) (t : TA) : TE := fun σ H Q => t σ H fun vs H1 => sp (vs ++ dvs) H1 Q E
/-- o.m(..) of an instance of the class at C -/
noncomputable def tMeth (C : Addr) (m : Str) (sp : Sp) (dvs : List V) (E : XK) (ta : TE) (t : TA) : TE := fun σ H Q => ta σ H fun x H1 => ∃ a dx fs, x = .ref a ∧ H1 a = some (.ins C dx fs) ∧ fs.lookup m = none ∧
  t σ H1 fun vs H2 => sp (x :: (vs ++ dvs)) H2 Q E
/-- C(..): a new instance and its dict, then __init__ -/
noncomputable def tMake (C : Addr) (sp : Sp) (dvs : List V) (E : XK) (t : TA) : TE := fun σ H Q => t σ H fun vs H1 => ∀ x dx, H1 x = none → H1 dx = none → dx ≠ x →
  sp (.ref x :: (vs ++ dvs)) (upd (upd H1 dx (.own x)) x (.ins C dx [])) (fun v H2 => v = .non ∧ Q (.ref x) H2) E

/-- how the parameters are bound: us the positional arguments, kw the keywords' values by name, ds the defaults that fill up -/
noncomputable def Binds (K : PySem.W.Frag) (fd : FuncData) (ps : List Str) (ds : List Value) : Prop :=
  ∀ (s : Shared) (us : List Value), K.In s.heap → (us ++ ds).length = ps.length → BindsTo s fd ⟨us, []⟩ (ps.zip (us ++ ds))
/-- every parameter is given -/
theorem Binds.all {K : PySem.W.Frag} {fd : FuncData} {ps : List Str} (h : ∀ us : List Value, us.length = ps.length → bindArgs fd ⟨us, []⟩ = pure (ps.zip us)) : Binds K fd ps [] := fun s us _ hl => by
  rw [List.append_nil] at hl ⊢
  exact .of_eq (h us hl)

/-- an exception of a callee reaches what this body wants of exceptions -/
noncomputable def Passes (CX : CXT) (X : Cx) (E : XK) : Prop := ∀ (pins : List (Addr × Obj)) (σ : St) (H : Hp) (s : Shared) (e : Value) (s' : Shared), Inv X pins σ H s → CX X.stack H s E e s' → X.xe e s'

section
variable {X : Cx} {CX : CXT} {k : Nat} {f C : Addr} {fd : FuncData} {ps : List Str} {sp : Sp} {dvs : List V} {ds : List Value} {E : XK} {x m : Str} {p pos apos : Pos} {e o : Expr} {es : List Expr} {ta : TE} {t : TA}

/-- the callee runs -/
theorem run_fn {pins : List (Addr × Obj)} {σ : St} {H : Hp} {s : Shared} {Q : VK} {us : List Value} {vs : List V} (F : FnOk X.prog X.w X.K X.mg X.base CX k f fd ps sp) (hr : Room k X.A) (hb : Binds X.K fd ps ds) (hd : Vals dvs ds) (hx : Passes CX X E)
    (I : Inv X pins σ H s) (r : Vals vs us) (h : sp (vs ++ dvs) H Q E) : wpAny (model X.prog X.w) X.A (call (.ref f) us) (EP X pins σ Q) X.xe s := by
  have r2 : Vals (vs ++ dvs) (us ++ ds) := r.append hd
  have hl : (us ++ ds).length = ps.length := by rw [← r2.length]; exact F.len _ _ _ _ h
  refine wpAny_call (codeAny_mono (F.run X.A X.stack s H ⟨us, []⟩ (us ++ ds) (vs ++ dvs) Q E hr I.env0 (hb s us I.kIn hl) r2 h) fun r s' hq => ?_)
  cases r with
  | error e => exact hx pins σ H s e s' I hq
  | ok fl =>
    cases fl with
    | ret u => exact I.after hq
    | next => exact False.elim hq
    | brk => exact False.elim hq
    | cont => exact False.elim hq

theorem pe_call (F : FnOk X.prog X.w X.K X.mg X.base CX k f fd ps sp) (hr : Room k X.A) (hg : Gl X x) (hm : X.mg x = some (.ref f)) (hk : PySem.W.keepIn X.K (.ref f) = true) (hb : Binds X.K fd ps ds) (hd : Vals dvs ds) (hx : Passes CX X E)
    (ha : PA X (e :: es) t) (hdb : (x == ("__debug__" : Str)) = false := by decide) (he : starEach (e :: es) X.env = (false, eval e X.env) :: starEach es X.env := by rfl) (hpl : (backTo pos (starEach es X.env)).any (·.1) = false := by rfl) :
    PE X (.Call (.Name x p) (e :: es) [] pos) (tCall sp dvs E t) := by
  intro pins s σ H Q I h
  refine wpAny_Call_Name_kw (ld_glob I hg hm ?_ hdb)
  refine PySem.W.callWith_K (h₀ := X.base) I.ok.mod.kin hk (thn (ha pos pins s σ H _ I h) fun us s1 ⟨vs, H1, I1, r, q⟩ => ⟨I1.kIn, ?_⟩) he hpl
  exact run_fn F hr hb hd hx I1 r q

/-- o.m(e, ..) -/
theorem pe_meth {pl : Sem Bool} (he : PE X o ta) (c : Cls X.K C) (hm : Meth X.K C m f) (F : FnOk X.prog X.w X.K X.mg X.base CX k f fd ps sp) (hr : Room k X.A) (hb : Binds X.K fd ps ds) (hd : Vals dvs ds) (hx : Passes CX X E) (ha : PA X (e :: es) t)
    (hst : starEach (e :: es) X.env = (false, eval e X.env) :: starEach es X.env := by rfl) (hpl : (backTo pos (starEach es X.env)).any (·.1) = false := by rfl)
    (ht : eval (.Call (.Attribute o m apos) (e :: es) [] pos) X.env = (do
      let ov ← eval o X.env
      standAt apos.atName
      let (f, first) ← holding [ov] (getMethod ov m pl)
      callWith pos f first (backTo pos (starEach (e :: es) X.env)) (backToKw pos (keywordEach [] X.env))) := by rfl) :
    PE X (.Call (.Attribute o m apos) (e :: es) [] pos) (tMeth C m sp dvs E ta t) := by
  intro pins s σ H Q I h
  refine PySem.W.methodCall_KW (pl := pl) (thn (he pins s σ H _ I h) fun u s1 ⟨x, H1, I1, rx, a, dx, fs, ex, ea, l, q⟩ => ?_) ht
  subst ex
  obtain rfl : u = Value.ref a := rx
  refine getmeth_ok I1 ea c hm l ?_
  refine PySem.W.callWith_K (first := [.ref a]) (h₀ := X.base) I.ok.mod.kin hm.kp (thn (ha pos pins s1 σ H1 _ I1 q) fun us s2 ⟨vs, H2, I2, r, q2⟩ => ⟨I2.kIn, ?_⟩) hst hpl
  exact run_fn (us := .ref a :: us) (vs := .ref a :: vs) F hr hb hd hx I2 (.cons rfl r) q2
/-- o.m() -/
theorem pe_meth0 {pl : Sem Bool} (he : PE X o ta) (c : Cls X.K C) (hm : Meth X.K C m f) (F : FnOk X.prog X.w X.K X.mg X.base CX k f fd ps sp) (hr : Room k X.A) (hb : Binds X.K fd ps ds) (hd : Vals dvs ds) (hx : Passes CX X E)
    (ht : eval (.Call (.Attribute o m apos) [] [] pos) X.env = (do
      let ov ← eval o X.env
      standAt apos.atName
      let (f, first) ← holding [ov] (getMethod ov m pl)
      callWith pos f first (backTo pos (starEach [] X.env)) (backToKw pos (keywordEach [] X.env))) := by rfl) :
    PE X (.Call (.Attribute o m apos) [] [] pos) (tMeth C m sp dvs E ta tNil) := by
  intro pins s σ H Q I h
  refine PySem.W.methodCall_KW (pl := pl) (thn (he pins s σ H _ I h) fun u s1 ⟨x, H1, I1, rx, a, dx, fs, ex, ea, l, q⟩ => ?_) ht
  subst ex
  obtain rfl : u = Value.ref a := rx
  refine getmeth_ok I1 ea c hm l ?_
  exact PySem.W.callWith_K0 (first := [.ref a]) I1.kIn hm.kp (run_fn (us := [.ref a]) (vs := [.ref a]) F hr hb hd hx I1 (.cons rfl .nil) q)

/-- what a class must have to be made -/
structure Mk (K : PySem.W.Frag) (C f : Addr) : Prop where
  makes : PySem.W.makesIn K C = true
  init : PySem.W.findIn K (.ref C) "__init__" = some (some (.ref f))
  fn : PySem.W.isFn K (.ref f) = true
  kp : PySem.W.keepIn K (.ref C) = true

theorem run_make {pins : List (Addr × Obj)} {σ : St} {H : Hp} {s : Shared} {Q : VK} {us : List Value} {vs : List V} (M : Mk X.K C f) (F : FnOk X.prog X.w X.K X.mg X.base CX k f fd ps sp) (hr : Room (k + 1) X.A) (hb : Binds X.K fd ps ds) (hd : Vals dvs ds)
    (hx : Passes CX X E) (I : Inv X pins σ H s) (r : Vals vs us)
    (h : ∀ x dx, H x = none → H dx = none → dx ≠ x → sp (.ref x :: (vs ++ dvs)) (upd (upd H dx (.own x)) x (.ins C dx [])) (fun v H2 => v = .non ∧ Q (.ref x) H2) E) :
    wpAny (model X.prog X.w) X.A (call (.ref C) us) (EP X pins σ Q) X.xe s := by
  have hq := h (s.heap.objs.size + 1) s.heap.objs.size (I.hok.fresh (Nat.le_succ _)) (I.hok.fresh (Nat.le_refl _)) (Nat.ne_of_lt (Nat.lt_succ_self _))
  have I2 := Inv.made (C := C) I
  have r2 : Vals (V.ref (s.heap.objs.size + 1) :: (vs ++ dvs)) (Value.ref (s.heap.objs.size + 1) :: (us ++ ds)) := .cons rfl (r.append hd)
  have hl : (Value.ref (s.heap.objs.size + 1) :: us ++ ds).length = ps.length := by
    have e := r2.length
    rw [F.len _ _ _ _ hq] at e
    exact e.symm
  refine wpAny_call (make_map (f := f) I.kIn M.makes M.init (beq_iff_eq.mp M.fn) (codeAny_mono (F.run _ X.stack _ _ ⟨Value.ref (s.heap.objs.size + 1) :: us, []⟩ (Value.ref (s.heap.objs.size + 1) :: (us ++ ds)) _ _ E (hr.make C us [])
    (I2.env0.make C us []) (hb _ (Value.ref (s.heap.objs.size + 1) :: us) I2.kIn hl) r2 hq) fun r s' hq' => ?_))
  cases r with
  | error e => exact hx pins σ _ _ e s' I2 hq'
  | ok fl =>
    cases fl with
    | ret u =>
      obtain ⟨v, H', I3, rv, ev, q3⟩ := I2.after hq'
      subst ev
      exact ⟨rv, ⟨V.ref (s.heap.objs.size + 1), H', I3, rfl, q3⟩⟩
    | next => exact False.elim hq'
    | brk => exact False.elim hq'
    | cont => exact False.elim hq'
theorem pe_make0 (M : Mk X.K C f) (F : FnOk X.prog X.w X.K X.mg X.base CX k f fd ps sp) (hr : Room (k + 1) X.A) (hg : Gl X x) (hm : X.mg x = some (.ref C)) (hb : Binds X.K fd ps ds) (hd : Vals dvs ds) (hx : Passes CX X E)
    (hdb : (x == ("__debug__" : Str)) = false := by decide) : PE X (.Call (.Name x p) [] [] pos) (tMake C sp dvs E tNil) := by
  intro pins s σ H Q I h
  refine wpAny_Call_Name_kw (ld_glob I hg hm ?_ hdb)
  exact PySem.W.callWith_K0 I.kIn M.kp (run_make (us := []) M F hr hb hd hx I .nil h)
end

/-! ### keywords -/
section
variable {X : Cx} {CX : CXT} {k : Nat} {f C : Addr} {fd : FuncData} {ps ks : List Str} {sp : Sp} {E : XK} {x m : Str} {p pos apos kpos : Pos} {e o : Expr} {es : List Expr} {kws : List Keyword} {te ta : TE} {t tk : TA} {nm : Option Str}

variable {g : List Value → List Value → List Value} {gV : List V → List V → List V}
end

/-! ### a def's body keeps its promise -/
/-- names: the parameters first -/
structure FnScope (N P : List Str) (sc : Scope) : Prop where
  kind : sc.kind = .function
  co : sc.isCoroutine = false
  gen : sc.isGenerator = false
  nd : N.Nodup
  pre : N.take P.length = P
  par : ∀ x ∈ P, sc.names.lookup x = some .local ∨ sc.names.lookup x = some .cell
  nofree : ∀ y ∈ sc.names, y.2 ≠ .free

theorem bindL_out {kindOf : Str → Option NameKind} {x : Str} : ∀ {binds : List (Str × Value)} {m : Str → Option Value}, (∀ v, (x, v) ∉ binds) → bindL kindOf binds m x = m x
  | [], _, _ => rfl
  | (n, v) :: r, m, h => by
    unfold bindL
    rw [bindL_out fun w hw => h w (List.mem_cons_of_mem _ hw)]
    split
    · have : x ≠ n := by rintro rfl; exact h v List.mem_cons_self
      simp [this]
    · rfl
theorem bindC_out {kindOf : Str → Option NameKind} {x : Str} : ∀ {binds : List (Str × Value)} {m : Str → Option Value}, (∀ v, (x, v) ∉ binds) → bindC kindOf binds m x = m x
  | [], _, _ => rfl
  | (n, v) :: r, m, h => by
    unfold bindC
    rw [bindC_out fun w hw => h w (List.mem_cons_of_mem _ hw)]
    split
    · rfl
    · have : x ≠ n := by rintro rfl; exact h v List.mem_cons_self
      simp [this]
theorem bindL_get {kindOf : Str → Option NameKind} {x : Str} {v : Value} : ∀ {P : List Str} {vs : List Value} {i : Nat} {m : Str → Option Value}, P.Nodup → P[i]? = some x → vs[i]? = some v → kindOf x = some .local →
    bindL kindOf (P.zip vs) m x = some v
  | [], _, _, _, _, h, _, _ => by simp at h
  | _ :: _, [], _, _, _, _, h, _ => by simp at h
  | p :: P, w :: vs, 0, m, nd, h1, h2, hk => by
    simp at h1 h2; subst h1; subst h2
    show bindL kindOf ((p, w) :: P.zip vs) m p = _
    unfold bindL
    rw [bindL_out fun v hv => (List.nodup_cons.mp nd).1 (List.of_mem_zip hv).1, if_pos hk]
    simp
  | p :: P, w :: vs, i + 1, m, nd, h1, h2, hk => by
    show bindL kindOf ((p, w) :: P.zip vs) m x = _
    unfold bindL
    exact bindL_get (i := i) (List.nodup_cons.mp nd).2 (by simpa using h1) (by simpa using h2) hk
theorem bindC_get {kindOf : Str → Option NameKind} {x : Str} {v : Value} : ∀ {P : List Str} {vs : List Value} {i : Nat} {m : Str → Option Value}, P.Nodup → P[i]? = some x → vs[i]? = some v → kindOf x ≠ some .local →
    bindC kindOf (P.zip vs) m x = some v
  | [], _, _, _, _, h, _, _ => by simp at h
  | _ :: _, [], _, _, _, _, h, _ => by simp at h
  | p :: P, w :: vs, 0, m, nd, h1, h2, hk => by
    simp at h1 h2; subst h1; subst h2
    show bindC kindOf ((p, w) :: P.zip vs) m p = _
    unfold bindC
    rw [bindC_out fun v hv => (List.nodup_cons.mp nd).1 (List.of_mem_zip hv).1, if_neg hk]
    simp
  | p :: P, w :: vs, i + 1, m, nd, h1, h2, hk => by
    show bindC kindOf ((p, w) :: P.zip vs) m x = _
    unfold bindC
    exact bindC_get (i := i) (List.nodup_cons.mp nd).2 (by simpa using h1) (by simpa using h2) hk

/-- the names' values at the entry -/
noncomputable def start (N : List Str) (vs : List V) : St := vs.map some ++ List.replicate (N.length - vs.length) none

/-- the context of a def's body, at its entry; an exception leaves the frame, then lies as CX says -/
noncomputable def cxOf (CX : CXT) (P : Program) (w : World) (K : PySem.W.Frag) (mg : Str → Option Value) (base : Heap) (N : List Str) (qual : Str) (scope : Scope) (f : Addr) (cd : Value) (A : Around) (outer : List Env) (s : Shared) (H : Hp) (E : XK) : Cx where
  prog := P
  w := w
  K := K
  mg := mg
  base := base
  A := A.deeper (envOfC qual scope s.heap.objs.size f cd)
  N := N
  s₀ := s
  H₀ := H
  env := envOfC qual scope s.heap.objs.size f cd
  outer := outer
  stack := envOfC qual scope s.heap.objs.size f cd :: outer
  ex := []
  calm := true
  fn := fun _ => true
  pn := []
  xe := fun e s' => wpAny (model P w) (A.deeper (envOfC qual scope s.heap.objs.size f cd)) (leaving (envOfC qual scope s.heap.objs.size f cd) e) (fun _ s'' => CX outer H s E e s'') (fun e' s'' => CX outer H s E e' s'') s'

theorem cell_has {sc : Scope} {n : Nat} {x : Str} (h : sc.names.lookup x = some .cell) : ∃ c, (cellsFrom n sc.names []).lookup x = some c := by
  have q := PySem.W.cellsFrom_some sc.names n [] (.inl h)
  exact Option.isSome_iff_exists.mp q

theorem inv_start {CX : CXT} {P : Program} {w : World} {K : PySem.W.Frag} {mg : Str → Option Value} {base : Heap} {N ps : List Str} {qual : Str} {scope : Scope} {f : Addr} {cd : Value} {A : Around} {outer : List Env} {s s1 : Shared} {H : Hp} {E : XK} {us : List Value} {vs : List V}
    (S : FnScope N ps scope) (hd : A.handled = none) (e0 : Env0 P w K mg base A outer s H) (hl : vs.length = ps.length) (r : Vals vs us)
    (x : InCallC s s.heap.objs.size (bindL (envOfC qual scope s.heap.objs.size f cd).kindOf (ps.zip us) fun _ => none) (cellsFrom (s.heap.objs.size + 1) scope.names []) (bindC (envOfC qual scope s.heap.objs.size f cd).kindOf (ps.zip us) fun _ => none) s1) :
    Inv (cxOf CX P w K mg base N qual scope f cd A outer s H E) [] (start N vs) H s1 := by
  have hpl : ps.length ≤ N.length := by have := congrArg List.length S.pre; rw [List.length_take] at this; omega
  obtain ⟨h1, tk, rfl, hk⟩ := x.done
  have noA : ∀ b : Addr, b ∉ (cxOf CX P w K mg base N qual scope f cd A outer s H E).ex := fun b z => absurd (show b ∈ ([] : List Addr) from z) (by simp)
  refine ⟨⟨e0.mod, S.kind, rfl, rfl, Nat.le_refl _, fun y z c h1 h2 => ?_, fun y hy => ?_, fun y c _ h => ?_, fun _ => hd, Around.frames_deeper e0.frames, .inr ⟨rfl, rfl⟩, fun b z => absurd z (noA b), e0.bs, e0.bsz, fun b _ _ => noA b, fun b z => absurd z (noA b), e0.funs, e0.frf⟩,
    rfl, e0.bare, Un.kept hk, ⟨_, x.toInCall.ns, fun i y v h1 h2 h3 => ?_⟩, fun y c h => ⟨_, x.cell y c h⟩, e0.hok.fresh (Nat.le_refl _), fun y c h => ?_, fun p hp => absurd (show p ∈ ([] : List (Addr × Obj)) from hp) (by simp), e0.hok.kept hk, ?_⟩
  · exact name_of_addr x.apart (PySem.mem_of_lookup h1) (PySem.mem_of_lookup h2)
  · have hy : scope.names.lookup y = some .cell ∨ scope.names.lookup y = some .free := hy
    rcases hy with hy | hy
    · exact cell_has hy
    · exact absurd rfl (S.nofree _ (PySem.mem_of_lookup hy))
  · exact Nat.le_of_lt (x.above y c (PySem.mem_of_lookup h))
  · have hi : i < vs.length := by
      unfold start at h2
      by_cases hi : i < vs.length
      · exact hi
      · rw [List.getElem?_append_right (by simpa using hi)] at h2
        rw [List.getElem?_replicate] at h2
        split at h2 <;> cases h2
    have ha : vs[i]? = some v := by
      unfold start at h2
      rw [List.getElem?_append_left (by simpa using hi), List.getElem?_map] at h2
      cases e : vs[i]? with
      | none => rw [e] at h2; cases h2
      | some a => rw [e] at h2; cases h2; rfl
    obtain ⟨u, hu, rv⟩ := r.get ha
    have hp : ps[i]? = some y := by
      rw [← S.pre, List.getElem?_take_of_lt (by omega)]; exact h1
    have ndP : ps.Nodup := by rw [← S.pre]; exact S.nd.sublist (List.take_sublist _ _)
    refine ⟨u, rv, ?_⟩
    rcases S.par y (List.mem_of_getElem? hp) with k | k
    · exact .inl ⟨k, bindL_get ndP hp hu k⟩
    · obtain ⟨c, e⟩ := cell_has (n := s.heap.objs.size + 1) k
      refine .inr ⟨.inl k, c, e, ?_⟩
      have q := x.cell y c e
      rw [bindC_get ndP hp hu (by show scope.names.lookup y ≠ _; rw [k]; decide)] at q
      exact q
  · exact e0.hok.fresh (Nat.le_of_lt (x.above y c (PySem.mem_of_lookup h)))
  · unfold start
    show _ = N.length
    rw [List.length_append, List.length_map, List.length_replicate]
    omega

/-- THE RULE: a def (or a method) of the text, by its body. The body's reading t is chosen for each entry; it is run at the parameters' values -/
theorem fn_of {CX : CXT} {P : Program} {w : World} {K : PySem.W.Frag} {mg : Str → Option Value} {base : Heap} {k : Nat} {f : Addr} {name qual : Str} {params : Arguments} {body : List Stmt} {scope : Scope} {dV kV doc pm cdv ct oc : Value} {an od : Option Addr}
    {osl : Array (Option Value)} {N ps : List Str} {sp : Sp} (lk : K.lookup f = some ⟨oc, od, .func (PySem.W.fnOf name qual params body scope dV kV doc pm an cdv ct), osl⟩) (hcd : PySem.W.codeIn K cdv qual = true) (S : FnScope N ps scope)
    (len : ∀ vs H Q E, sp vs H Q E → vs.length = ps.length)
    (hbody : ∀ (A : Around) (outer : List Env) (s : Shared) (H : Hp) (vs : List V) (Q : VK) (E : XK), Room k (A.deeper (envOfC qual scope s.heap.objs.size f cdv)) → sp vs H Q E →
      ∃ t, PSs (cxOf CX P w K mg base N qual scope f cdv A outer s H E) body t ∧ t { nx := fun _ H' => Q .non H', rt := Q } (start N vs) H) :
    FnOk P w K mg base CX (k + 1) f (PySem.W.fnOf name qual params body scope dV kV doc pm an cdv ct) ps sp := by
  refine ⟨len, fun A outer s H args us vs Q E hr e0 hb r hsp => ?_⟩
  have hl := len _ _ _ _ hsp
  have KX : K.In s.heap := e0.mod.kin.keeps fun b o e => (e0.bs b o e).1
  have lim : s.heap.NoLimit := e0.mod.nolimit.keeps fun b o e => (e0.bs b o e).1
  have hkind : ∀ y ∈ ps.zip us, scope.names.lookup y.1 = some .local ∨ (scope.names.lookup y.1 = some .cell ∧ ((cellsFrom (s.heap.objs.size + 1) scope.names []).lookup y.1).isSome = true) := fun ⟨n, v⟩ hy => by
    rcases S.par n (List.of_mem_zip hy).1 with q | q
    · exact .inl q
    · exact .inr ⟨q, PySem.W.cellsFrom_some _ _ _ (.inl q)⟩
  refine codeAny_call_function hr.depth (KX _ _ lk) rfl S.co S.gen rfl (PySem.W.codeRec_of KX hcd) (hb _ _ _ _ ?_)
  refine wpAny_newFunctionEnv_cells S.kind hkind fun env he s1 x => ?_
  subst he
  refine ⟨lim.keeps x.toInCall.keep, codeAny_func ?_⟩
  obtain ⟨t, ht, hq⟩ := hbody A outer s H vs Q E (hr.deeper _) hsp
  have I : Inv (cxOf CX P w K mg base N qual scope f cdv A outer s H E) [] (start N vs) H s1 := inv_start S hr.hd e0 hl r x
  refine wpAny_mono (ht [] s1 (start N vs) H _ I hq) (fun fl s' hs => ?_) fun e s' hs => hs
  have fin : ∀ {σ' : St} {H' : Hp} {v : V} {u : Value}, Inv (cxOf CX P w K mg base N qual scope f cdv A outer s H E) [] σ' H' s' → RelV v u → Q v H' → CE outer P w H s Q u s' :=
    fun {σ' H' v u} J rv q => ⟨v, H', J.os, J.bare, J.base, J.hok, rv, q⟩
  cases fl with
  | ret u =>
    obtain ⟨v, σ', H', J, rv, q⟩ := hs
    exact fin J rv q
  | next =>
    obtain ⟨σ', H', J, q⟩ := hs
    exact fin (v := V.non) (u := Value.none) J rfl q
  | brk =>
    obtain ⟨_, _, _, q⟩ := hs
    exact False.elim q
  | cont =>
    obtain ⟨_, _, _, q⟩ := hs
    exact False.elim q
end L2

namespace L2
open PySem PySem.Spec PyProof.Rows
section
variable {X : Cx} {x : Str} {p pos : Pos} {e : Expr} {es : List Expr} {t : TA} {id T : String} {r : List V → Hp → VK → Prop}

noncomputable def tCB (r : List V → Hp → VK → Prop) (t : TA) : TE := fun σ H Q => t σ H fun vs H1 => r vs H1 Q
/-- f(e, ..), f a built-in function -/
theorem pe_callB (hc : CallR X (.builtin id) r) (hg : Gl X x) (hm : X.mg x = none) (hv : bootBuiltins x = some (.builtin id)) (ha : PA X (e :: es) t) (hn : x ≠ "__name__" := by decide) (hdb : (x == ("__debug__" : Str)) = false := by decide)
    (he : starEach (e :: es) X.env = (false, eval e X.env) :: starEach es X.env := by rfl) (hpl : (backTo pos (starEach es X.env)).any (·.1) = false := by rfl) : PE X (.Call (.Name x p) (e :: es) [] pos) (tCB r t) := by
  intro pins s σ H Q I h
  refine wpAny_Call_Name_kw (ld_blt I hg hm hv ?_ hn hdb)
  exact PyProof.Rows.callWith_builtin1 (thn (ha pos pins s σ H _ I h) fun us s1 ⟨vs, H1, I1, r1, q1⟩ => hc pins s1 σ H1 vs us Q I1 r1 q1) he hpl
/-- T(e, ..), T a built-in type -/
theorem pe_callTy (hc : CallR X (.type T) r) (hg : Gl X x) (hm : X.mg x = none) (hv : bootBuiltins x = some (.type T)) (ha : PA X (e :: es) t) (hn : x ≠ "__name__" := by decide) (hdb : (x == ("__debug__" : Str)) = false := by decide)
    (he : starEach (e :: es) X.env = (false, eval e X.env) :: starEach es X.env := by rfl) (hpl : (backTo pos (starEach es X.env)).any (·.1) = false := by rfl) : PE X (.Call (.Name x p) (e :: es) [] pos) (tCB r t) := by
  intro pins s σ H Q I h
  refine wpAny_Call_Name_kw (ld_blt I hg hm hv ?_ hn hdb)
  exact PyProof.Rows.callWith_type1 (thn (ha pos pins s σ H _ I h) fun us s1 ⟨vs, H1, I1, r1, q1⟩ => hc pins s1 σ H1 vs us Q I1 r1 q1) he hpl
end
end L2

namespace L2
open PySem PySem.Spec PyProof.Rows

/-! ### lists of pairs as tables -/
section
variable {κ : Type} [DecidableEq κ]
noncomputable def valV (kvs : List (κ × V)) (k : κ) : Option V := (kvs.find? fun kv => decide (kv.1 = k)).map (·.2)
/-- in its place, or at the end -/
noncomputable def putK (kvs : List (κ × V)) (k : κ) (v : V) : List (κ × V) :=
  if (kvs.any fun kv => decide (kv.1 = k)) = true then kvs.map (fun kv => if kv.1 = k then (kv.1, v) else kv) else kvs ++ [(k, v)]

theorem valV_pos {p : κ × V} {r : List (κ × V)} {k : κ} (e : p.1 = k) : valV (p :: r) k = some p.2 := by simp [valV, List.find?_cons, e]
theorem valV_neg {p : κ × V} {r : List (κ × V)} {k : κ} (e : ¬ p.1 = k) : valV (p :: r) k = valV r k := by simp [valV, List.find?_cons, e]
theorem valV_any (k : κ) : ∀ kvs : List (κ × V), (kvs.any fun kv => decide (kv.1 = k)) = (valV kvs k).isSome
  | [] => rfl
  | p :: r => by
    rw [List.any_cons]
    by_cases e : p.1 = k
    · simp only [valV_pos e, decide_eq_true e, Bool.true_or, Option.isSome_some]
    · rw [valV_neg e, decide_eq_false e, Bool.false_or]; exact valV_any k r
theorem valV_map (k j : κ) (y : V) : ∀ kvs : List (κ × V), valV (kvs.map fun kv => if kv.1 = k then (kv.1, y) else kv) j = (valV kvs j).map fun x => if j = k then y else x
  | [] => rfl
  | p :: r => by
    have ih := valV_map k j y r
    rw [List.map_cons]
    by_cases h : p.1 = k
    · rw [if_pos h]
      by_cases e : p.1 = j
      · rw [valV_pos (p := (p.1, y)) e, valV_pos e, Option.map_some, if_pos (e.symm.trans h)]
      · rw [valV_neg (p := (p.1, y)) e, valV_neg e, ih]
    · rw [if_neg h]
      by_cases e : p.1 = j
      · rw [valV_pos (p := p) e, valV_pos e, Option.map_some, if_neg (fun z => h (e.trans z))]
      · rw [valV_neg (p := p) e, valV_neg e, ih]
theorem valV_snoc (k j : κ) (y : V) : ∀ kvs : List (κ × V), valV kvs k = none → valV (kvs ++ [(k, y)]) j = if j = k then some y else valV kvs j
  | [], _ => by
    by_cases e : k = j
    · rw [if_pos e.symm]; exact valV_pos (p := (k, y)) e
    · rw [if_neg (fun z => e z.symm)]; exact valV_neg (p := (k, y)) e
  | p :: r, hn => by
    rw [List.cons_append]
    have hk : ¬ p.1 = k := fun z => by rw [valV_pos z] at hn; cases hn
    rw [valV_neg hk] at hn
    have ih := valV_snoc k j y r hn
    by_cases e : p.1 = j
    · rw [valV_pos e, valV_pos e, if_neg (fun z => hk (e.trans z))]
    · rw [valV_neg e, valV_neg e, ih]
theorem valV_put (kvs : List (κ × V)) (k j : κ) (y : V) : valV (putK kvs k y) j = if j = k then some y else valV kvs j := by
  unfold putK
  by_cases a : (kvs.any fun kv => decide (kv.1 = k)) = true
  · rw [if_pos a, valV_map]
    rw [valV_any] at a
    by_cases e : j = k
    · obtain ⟨x, hx⟩ := Option.isSome_iff_exists.mp a
      rw [if_pos e, e, hx, Option.map_some, if_pos rfl]
    · rw [if_neg e]
      cases valV kvs j with
      | none => rfl
      | some x => rw [Option.map_some, if_neg e]
  · rw [if_neg a]
    refine valV_snoc k j y kvs ?_
    rw [valV_any] at a
    cases q : valV kvs k with
    | none => rfl
    | some x => rw [q] at a; exact (a rfl).elim
theorem length_putK (kvs : List (κ × V)) (k : κ) (v : V) : (putK kvs k v).length ≤ kvs.length + 1 := by
  unfold putK
  split
  · rw [List.length_map]; omega
  · rw [List.length_append, List.length_cons, List.length_nil]; omega

theorem RelO.isSome_eq {o : Option V} {u : Option Value} (r : RelO o u) : o.isSome = u.isSome := by
  cases o with
  | none => cases u with
    | none => rfl
    | some _ => exact (show False from r).elim
  | some _ => cases u with
    | none => exact (show False from r).elim
    | some _ => rfl

/-- raw tables of the same keys -/
theorem KV.val {kvs : List (κ × V)} {vs : List (κ × Value)} (r : KV kvs vs) (k : κ) : RelO (valV kvs k) (valueAt vs k) := by
  unfold KV at r
  induction r with
  | nil => exact True.intro
  | @cons p q ps qs h t ih =>
    obtain ⟨h1, h2⟩ := h
    by_cases e : p.1 = k
    · have e' : q.1 = k := h1.symm.trans e
      have b : valueAt (q :: qs) k = some q.2 := by simp [valueAt, List.find?_cons, e']
      rw [valV_pos e, b]; exact h2
    · have e' : ¬ q.1 = k := fun z => e (h1.trans z)
      have b : valueAt (q :: qs) k = valueAt qs k := by simp [valueAt, List.find?_cons, e']
      rw [valV_neg e, b]; exact ih
theorem KV.any {kvs : List (κ × V)} {vs : List (κ × Value)} (r : KV kvs vs) (k : κ) : (kvs.any fun kv => decide (kv.1 = k)) = vs.any fun kv => decide (kv.1 = k) := by
  unfold KV at r
  induction r with
  | nil => rfl
  | cons h t ih => rw [List.any_cons, List.any_cons, ih, h.1]
theorem KV.repl {kvs : List (κ × V)} {vs : List (κ × Value)} (r : KV kvs vs) (k : κ) {y : V} {u : Value} (ry : RelV y u) :
    KV (kvs.map fun kv => if kv.1 = k then (kv.1, y) else kv) (vs.map fun kv => if kv.1 = k then (kv.1, u) else kv) := by
  unfold KV at r ⊢
  induction r with
  | nil => exact .nil
  | @cons p q ps qs h t ih =>
    rw [List.map_cons, List.map_cons]
    refine .cons ?_ ih
    obtain ⟨h1, h2⟩ := h
    by_cases e : p.1 = k
    · rw [if_pos e, if_pos (h1.symm.trans e)]; exact ⟨h1, ry⟩
    · rw [if_neg e, if_neg (fun z => e (h1.trans z))]; exact ⟨h1, h2⟩
theorem KV.put {kvs : List (κ × V)} {vs : List (κ × Value)} (r : KV kvs vs) (k : κ) {y : V} {u : Value} (ry : RelV y u) : KV (putK kvs k y) (stored vs k u) := by
  unfold putK stored
  rw [r.any k]
  by_cases e : (vs.any fun kv => decide (kv.1 = k)) = true
  · rw [if_pos e, if_pos e]; exact r.repl k ry
  · rw [if_neg e, if_neg e]; exact Paired.snoc r ⟨rfl, ry⟩
theorem KV.length {kvs : List (κ × V)} {vs : List (κ × Value)} (r : KV kvs vs) : kvs.length = vs.length := Paired.length r
end


/-! ### a tracked dict, its keys ints and texts or tuples of these -/
theorem kV_is {P : Program} {w : World} {k : Key} {u : Value} (r : RelV (kV k) u) : (mixKind P w).is k u = true := by
  cases k with
  | inl i => obtain ⟨t, e⟩ := (show ∃ t, u = Value.int i t from r); subst e; exact mixKind_int P w i t
  | inr x => obtain ⟨t, e⟩ := (show ∃ t, u = Value.str x t from r); subst e; exact mixKind_str P w x t
theorem items_are {P : Program} {w : World} : ∀ {ks : List Key} {us : List Value}, Vals (ks.map kV) us → ItemsAre (mixKind P w) ks us
  | [], _, r => by rw [List.map_nil] at r; cases r; exact .nil
  | k :: ks, _, r => by
    rw [List.map_cons] at r
    cases r with
    | cons h t => exact .cons (kV_is h) (items_are t)

/-- raw entries of a dict with tuple keys -/
noncomputable abbrev KT (H : Hp) : List (List Key × V) → List (List Key × Addr × Value) → Prop := Paired fun p q => p.1 = q.1 ∧ H q.2.1 = some (.tup (p.1.map kV)) ∧ RelV p.2 q.2.2
theorem KT.val {H : Hp} {kvs : List (List Key × V)} {xs : List (List Key × Addr × Value)} (r : KT H kvs xs) (k : List Key) : RelO (valV kvs k) ((atKey xs k).map (·.2)) := by
  induction r with
  | nil => exact True.intro
  | @cons p q ps qs h t ih =>
    obtain ⟨h1, _, h2⟩ := h
    by_cases e : p.1 = k
    · have e' : q.1 = k := h1.symm.trans e
      have b : atKey (q :: qs) k = some q.2 := by simp [atKey, List.find?_cons, e']
      rw [valV_pos e, b]; exact h2
    · have e' : ¬ q.1 = k := fun z => e (h1.trans z)
      have b : atKey (q :: qs) k = atKey qs k := by simp [atKey, List.find?_cons, e']
      rw [valV_neg e, b]; exact ih
theorem KT.repl {H : Hp} {kvs : List (List Key × V)} {xs : List (List Key × Addr × Value)} (r : KT H kvs xs) (k : List Key) {y : V} {u : Value} (ry : RelV y u) :
    KT H (kvs.map fun kv => if kv.1 = k then (kv.1, y) else kv) (xs.map (putAt k u)) := by
  induction r with
  | nil => exact .nil
  | @cons p q ps qs h t ih =>
    rw [List.map_cons, List.map_cons]
    refine .cons ?_ ih
    obtain ⟨h1, h2, h3⟩ := h
    unfold putAt
    by_cases e : p.1 = k
    · rw [if_pos e, if_pos (h1.symm.trans e)]; exact ⟨h1, h2, ry⟩
    · rw [if_neg e, if_neg (fun z => e (h1.trans z))]; exact ⟨h1, h2, h3⟩
theorem KT.put {H : Hp} {kvs : List (List Key × V)} {xs : List (List Key × Addr × Value)} (r : KT H kvs xs) (k : List Key) {b : Addr} {y : V} {u : Value} (hb : H b = some (.tup (k.map kV))) (ry : RelV y u) :
    KT H (putK kvs k y) (storedH xs k b u) := by
  have e : (kvs.any fun kv => decide (kv.1 = k)) = (atKey xs k).isSome := by
    rw [valV_any, (r.val k).isSome_eq, Option.isSome_map]
  unfold putK storedH
  rw [e]
  by_cases q : (atKey xs k).isSome = true
  · rw [if_pos q, if_pos q]; exact r.repl k ry
  · rw [if_neg q, if_neg q]; exact Paired.snoc r ⟨rfl, hb, ry⟩
theorem KT.keeps {H H' : Hp} {kvs : List (List Key × V)} {xs : List (List Key × Addr × Value)} (r : KT H kvs xs) (ht : ∀ b ys, H b = some (.tup ys) → H' b = some (.tup ys)) : KT H' kvs xs :=
  Paired.mapP r fun _ _ z => ⟨z.1, ht _ _ z.2.1, z.2.2⟩

section
variable {P : Program} {w : World} {H : Hp} {h : Heap} {a : Addr}
theorem rd_of {u : HO} (ok : HOk P w H h) (e : Rd H a u) : ObjOk P w H h a u := e.ok ok
theorem dk_rd {kvs : List (Key × V)} (ok : HOk P w H h) (e : Rd H a (.dK kvs)) : kvs.length ≤ sizeLine ∧ (a == sysModules) = false ∧ ∃ vs, KV kvs vs ∧ h.DictOf (mixKind P w) a vs :=
  show ObjOk P w H h a (.dK kvs) from rd_of ok e
theorem dk_of {kvs : List (Key × V)} (ok : HOk P w H h) (e : H a = some (.dK kvs)) : kvs.length ≤ sizeLine ∧ (a == sysModules) = false ∧ ∃ vs, KV kvs vs ∧ h.DictOf (mixKind P w) a vs := dk_rd ok (.inl e)
/-- a tracked tuple of ints and texts is a key -/
theorem key_of {ks : List Key} (ok : HOk P w H h) (e : H a = some (.tup (ks.map kV))) : (tupleKind (mixKind P w)).is h ks a := by
  obtain ⟨_, its, r, o, h1, h2, n, h3⟩ := (show ObjOk P w H h a (.tup (ks.map kV)) from ok a _ e)
  exact ⟨o, its.toArray, n, h1, h2, h3, by simpa using items_are r⟩
theorem dt_rd {kvs : List (List Key × V)} (ok : HOk P w H h) (e : Rd H a (.dT kvs)) : kvs.length ≤ sizeLine ∧ (a == sysModules) = false ∧
    ∃ xs, KT H kvs xs ∧ h.DictOfH (tupleKind (mixKind P w)) a xs := by
  obtain ⟨z, y, xs, r, o, es, ep, h1, h2, h3, h4, h5⟩ := (show ObjOk P w H h a (.dT kvs) from rd_of ok e)
  refine ⟨z, y, xs, r, o, es, ep, h1, h2, h3, h4, fun x hx => ?_, h5⟩
  have all : ∀ {l : List (List Key × V)} {m : List (List Key × Addr × Value)}, KT H l m → ∀ x ∈ m, (tupleKind (mixKind P w)).is h x.1 x.2.1 := by
    intro l m q
    induction q with
    | nil => intro x hx; exact nomatch hx
    | @cons p q ps qs hq t ih =>
      intro x hx
      rcases List.mem_cons.mp hx with e | hx
      · subst e
        exact key_of ok (by rw [← hq.1]; exact hq.2.1)
      · exact ih x hx
  exact all r x hx
theorem dt_of {kvs : List (List Key × V)} (ok : HOk P w H h) (e : H a = some (.dT kvs)) : kvs.length ≤ sizeLine ∧ (a == sysModules) = false ∧
    ∃ xs, KT H kvs xs ∧ h.DictOfH (tupleKind (mixKind P w)) a xs := dt_rd ok (.inl e)
end

/-- what the dict at a holds at the key y -/
noncomputable def DGet (H : Hp) (a : Addr) (y : V) (r : Option V) : Prop :=
  (∃ kvs k, Rd H a (.dK kvs) ∧ y = kV k ∧ r = valV kvs k) ∨ ∃ kvs k b, Rd H a (.dT kvs) ∧ y = .ref b ∧ H b = some (.tup (k.map kV)) ∧ r = valV kvs k
/-- the heap behind a[y] = v -/
noncomputable def DPut (H : Hp) (a : Addr) (y v : V) (H' : Hp) : Prop :=
  (∃ kvs k, H a = some (.dK kvs) ∧ y = kV k ∧ kvs.length < sizeLine ∧ H' = upd H a (.dK (putK kvs k v))) ∨
  ∃ kvs k b, H a = some (.dT kvs) ∧ y = .ref b ∧ H b = some (.tup (k.map kV)) ∧ kvs.length < sizeLine ∧ H' = upd H a (.dT (putK kvs k v))
theorem DGet.k {H : Hp} {a : Addr} {kvs : List (Key × V)} {k : Key} (e : H a = some (.dK kvs)) : DGet H a (kV k) (valV kvs k) := .inl ⟨kvs, k, .inl e, rfl, rfl⟩
theorem DPut.k {H : Hp} {a : Addr} {kvs : List (Key × V)} {k : Key} {v : V} (e : H a = some (.dK kvs)) (hl : kvs.length < sizeLine) : DPut H a (kV k) v (upd H a (.dK (putK kvs k v))) := .inl ⟨kvs, k, e, rfl, hl, rfl⟩


section
variable {X : Cx} {pins : List (Addr × Obj)} {σ : St} {H : Hp} {s : Shared} {a : Addr} {y v : V} {u r : Value} {o : Option V} {A : Around} {E : Value → Shared → Prop}

theorem Inv.big (I : Inv X pins σ H s) : sysModules < s.heap.objs.size := by
  have h : mainGlobals < s.heap.objs.size := (I.mod.glob.keeps I.bk).lt
  exact Nat.lt_trans (by decide) h

/-- d[y], there -/
theorem d_getItem {Q : Value → Shared → Prop} (hu : A.units + 1 < cLine) (I : Inv X pins σ H s) (g : DGet H a y (some v)) (ry : RelV y u) (h : ∀ w' s', Inv X pins σ H s' → RelV v w' → Q w' s') :
    wpAny (model X.prog X.w) A (getItem (.ref a) u) Q E s := by
  rcases g with ⟨kvs, k, e, ey, l⟩ | ⟨kvs, k, b, e, ey, eb, l⟩
  · subst ey
    obtain ⟨z, hd, vs, rel, dd⟩ := dk_rd I.hok e
    obtain ⟨w', hw, rw'⟩ := RelO.some_of (v := v) (o := valueAt vs k) (by rw [l]; exact rel.val k)
    exact wpAny_getItem_of (kV_is ry) dd.mapOf hw (h w' _ (I.tok _) rw')
  · subst ey
    cases (show u = Value.ref b from ry)
    obtain ⟨z, hd, xs, rel, dd⟩ := dt_rd I.hok e
    obtain ⟨w', hw, rw'⟩ := RelO.some_of (v := v) (o := (atKey xs k).map (·.2)) (by rw [l]; exact rel.val k)
    obtain ⟨p, hp, hp2⟩ := Option.map_eq_some_iff.mp hw
    refine wpAny_getItem_heap (tupleKind_room_in1 hu) (key_of I.hok eb) dd hp ?_
    rw [hp2]
    exact h w' _ (I.tok _) rw'
theorem d_notIn {Q : Value → Shared → Prop} (hu : A.units + 1 < cLine) (I : Inv X pins σ H s) (g : DGet H a y o) (ry : RelV y u) (h : ∀ s', Inv X pins σ H s' → Q (.bool (!o.isSome)) s') :
    wpAny (model X.prog X.w) A (compareOp .NotIn u (.ref a)) Q E s := by
  rcases g with ⟨kvs, k, e, ey, l⟩ | ⟨kvs, k, b, e, ey, eb, l⟩
  · subst ey
    obtain ⟨z, hd, vs, rel, dd⟩ := dk_rd I.hok e
    refine wpAny_notIn_of (kV_is ry) hd dd.mapOf ?_
    rw [← (rel.val k).isSome_eq, ← l]
    exact h _ (I.tok _)
  · subst ey
    cases (show u = Value.ref b from ry)
    obtain ⟨z, hd, xs, rel, dd⟩ := dt_rd I.hok e
    refine wpAny_notIn_heap (tupleKind_room_in1 hu) (key_of I.hok eb) hd dd ?_
    have q := (rel.val k).isSome_eq
    rw [Option.isSome_map] at q
    rw [← q, ← l]
    exact h _ (I.tok _)
/-- a dict's object is replaced -/
theorem d_write {h' : Heap} {t' : Nat} {ob : HO} (I : Inv X pins σ H s) (mu : Mut (H a)) (hs : Heap.SameBut a s.heap h') (he : ∃ q, h'.get? a = some q) (new : ObjOk X.prog X.w (upd H a ob) h' a ob) :
    Inv X pins σ (upd H a ob) { s with heap := h', toks := t' } :=
  I.write (x := a) (e := a) mu (.inl rfl) (fun b q hb z => (hs.2 b hb).trans z) he new
theorem dk_new {P : Program} {w : World} {H' : Hp} {h' : Heap} {kvs : List (Key × V)} {vs : List (Key × Value)} (z : kvs.length ≤ sizeLine) (hd : (a == sysModules) = false) (rel : KV kvs vs) (dd : h'.DictOf (mixKind P w) a vs) :
    ObjOk P w H' h' a (.dK kvs) := ⟨z, hd, vs, rel, dd⟩
/-- d[y] = v -/
theorem d_setItem {H' : Hp} {Q : Unit → Shared → Prop} (hu : A.units + 1 < cLine) (I : Inv X pins σ H s) (g : DPut H a y v H') (ry : RelV y u) (rv : RelV v r) (h : ∀ s', Inv X pins σ H' s' → Q () s') :
    wpAny (model X.prog X.w) A (setItem (.ref a) u r) Q E s := by
  rcases g with ⟨kvs, k, e, ey, l, eH⟩ | ⟨kvs, k, b, e, ey, eb, l, eH⟩
  · subst ey eH
    obtain ⟨z, hd, vs, rel, dd⟩ := dk_of I.hok e
    have hz : vs.length ≤ sizeLine := by rw [← rel.length]; exact z
    have hl : (putK kvs k v).length ≤ sizeLine := by have := length_putK kvs k v; omega
    refine wpAny_setItem_pairs (hsz := hz) (kV_is ry) dd fun h' dd' hs => h _ ?_
    have he : ∃ q, h'.get? a = some q := let ⟨q, _, _, hq, _⟩ := dd'; ⟨q, hq⟩
    exact d_write I (by rw [e]; exact True.intro) hs he (dk_new hl hd (rel.put k rv) dd')
  · subst ey eH
    cases (show u = Value.ref b from ry)
    obtain ⟨z, hd, xs, rel, dd⟩ := dt_of I.hok e
    have hz : xs.length ≤ sizeLine := by rw [← Paired.length rel]; exact z
    have hl : (putK kvs k v).length ≤ sizeLine := by have := length_putK kvs k v; omega
    refine wpAny_setItem_heap (hsz := hz) (tupleKind_room_in1 hu) (key_of I.hok eb) dd fun h' dd' hs => h _ ?_
    obtain ⟨q, es, ep, hq, h2, h3, h4, _, h5⟩ := dd'
    refine d_write I (by rw [e]; exact True.intro) hs ⟨q, hq⟩ ⟨hl, hd, _, (rel.put k eb rv).keeps fun c ys ec => ?_, q, es, ep, hq, h2, h3, h4, h5⟩
    rw [upd_ne (ne_of ec e (fun z => nomatch z))]
    exact ec
end

section
variable {X : Cx} {pins : List (Addr × Obj)} {σ : St} {H : Hp} {s : Shared} {a : Addr} {kvs : List (Key × V)} {k : Key} {u : Value} {A : Around} {E : Value → Shared → Prop}
end


/-! ### readings and rules -/
/-- the element of a subscription, not a slice -/
noncomputable def NoSl (i : Expr) : Prop := ∀ ov iv, subscripted i false ov iv = operate [ov, iv] (getItem ov iv)
theorem subD_of {prog : Program} {w : World} {A : Around} {E : Value → Shared → Prop} {s : Shared} {env : Env} {value slice : Expr} {pos : Pos} {T id : String} {Q : Value → Shared → Prop}
    (hl : typeLookup (.type T) "__getitem__" = pure (some (.builtin id))) (hs : NoSl slice)
    (h : wpAny (model prog w) A (eval value env) (fun o s₁ => wpAny (model prog w) A (eval slice env) (fun i s₂ => s₂.TypeIs o T ∧ wpAny (model prog w) A (getItem o i) Q E s₂) E s₁) E s) :
    wpAny (model prog w) A (eval (.Subscript value slice pos) env) Q E s := by
  refine Subscript_ (wpAny_mono h (fun o s₁ h₁ => wpAny_mono h₁ (fun i s₂ h₂ => ?_) fun _ _ x => x) fun _ _ x => x)
  obtain ⟨hT, h₂⟩ := h₂
  unfold subscriptTail
  refine wpAny_bind ?_
  rw [getitemInPython_of_ne hT.not_modules]
  refine wpAny_bind (wpAny_specialOf hT hl ?_)
  have fin : wpAny (model prog w) A (subscripted slice false o i) (fun r s₃ => wpAny (model prog w) A (letTemporaryGo value o r >>= fun _ => pure r) Q E s₃) E s₂ := by
    rw [hs o i]
    exact wpAny_operating (wpAny_mono h₂ (fun r s₃ h₃ => wpAny_bind (wpAny_letTemporaryGo (wpAny_pure h₃))) fun _ _ x => x)
  first
    | exact wpAny_pure (wpAny_bind fin)
    | exact wpAny_bind (wpAny_pure (wpAny_bind fin))
    | exact wpAny_bind fin

theorem dict_typeIs {X : Cx} {pins : List (Addr × Obj)} {σ : St} {H : Hp} {s : Shared} {a : Addr} {y : V} {o : Option V} (I : Inv X pins σ H s) (g : DGet H a y o) : s.TypeIs (.ref a) "dict" := by
  rcases g with ⟨kvs, k, e, _, _⟩ | ⟨kvs, k, b, e, _, _, _⟩
  · obtain ⟨_, _, vs, _, dd⟩ := dk_rd I.hok e
    exact dd.typeIs
  · obtain ⟨_, _, xs, _, dd⟩ := dt_rd I.hok e
    exact dd.typeIs

/-- d[y] -/
noncomputable def tDGet (td ty : TE) : TE := fun σ H Q => td σ H fun x H1 => ty σ H1 fun y H2 => ∃ a v, x = .ref a ∧ DGet H2 a y (some v) ∧ Q v H2
noncomputable def tDNotIn (ty td : TE) : TE := fun σ H Q => ty σ H fun y H1 => td σ H1 fun x H2 => ∃ a o, x = .ref a ∧ DGet H2 a y o ∧ Q (.bl (!o.isSome)) H2
/-- d[y] = v -/
noncomputable def sDPut (td ty tv : TE) : TS := fun D σ H => tv σ H fun v H1 => td σ H1 fun x H2 => ty σ H2 fun y H3 => ∃ a H4, x = .ref a ∧ DPut H3 a y v H4 ∧ D.nx σ H4

section
variable {X : Cx} {o i e value : Expr} {pos pos' tpos : Pos} {td ty tv : TE}
theorem pe_dget (hu : X.A.units + 1 < cLine) (ho : PE X o td) (hi : PE X i ty) (hs : NoSl i) : PE X (.Subscript o i pos) (tDGet td ty) := by
  intro pins s σ H Q I h
  refine subD_of PySem.F.slot_dict_getitem.lookup hs (thn (ho pins s σ H _ I h) fun u s1 ⟨x, H1, I1, rx, q1⟩ => thn (hi pins s1 σ H1 _ I1 q1) fun iv s2 ⟨y, H2, I2, ry, a, v, ex, g, q2⟩ => ?_)
  subst ex
  obtain rfl : u = Value.ref a := rx
  exact ⟨dict_typeIs I2 g, d_getItem hu I2 g ry fun w' s3 I3 rw' => ⟨v, H2, I3, rw', q2⟩⟩
theorem pc_dnotin (hu : X.A.units + 1 < cLine) (hi : PE X i ty) (ho : PE X o td) : PC X .NotIn i o (tDNotIn ty td) := by
  intro pins s σ H Q I h
  refine thn (hi pins s σ H _ I h) fun iv s1 ⟨y, H1, I1, ry, q1⟩ => thn (ho pins s1 σ H1 _ I1 q1) fun u s2 ⟨x, H2, I2, rx, a, ov, ex, g, q2⟩ => ?_
  subst ex
  obtain rfl : u = Value.ref a := rx
  exact d_notIn hu I2 g ry fun s3 I3 => ⟨.bl (!ov.isSome), H2, I3, rfl, q2⟩
theorem ps_dput (hu : X.A.units + 1 < cLine) (ho : PE X o td) (hi : PE X i ty) (hv : PE X value tv) (hs : swapsWith value (some (.Subscript o i pos')) pos.line X.env = pure false) :
    PS X (.Assign [.Subscript o i pos'] value pos) (sDPut td ty tv) := by
  intro pins s σ H D I h
  refine wpAny_Assign_Subscript (thn (hv pins s σ H _ I h) fun r s1 ⟨v, H1, I1, rv, q1⟩ => thn (ho pins s1 σ H1 _ I1 q1) fun u s2 ⟨x, H2, I2, rx, q2⟩ => thn (hi pins s2 σ H2 _ I2 q2) fun iv s3 ⟨y, H3, I3, ry, a, H4, ex, g, q3⟩ => ?_) hs
  subst ex
  obtain rfl : u = Value.ref a := rx
  exact d_setItem hu I3 g ry rv fun s4 I4 => ⟨σ, H4, I4, q3⟩
end


/-! ### displays -/
theorem dk_empty {P : Program} {w : World} {H : Hp} (h : Heap) (hb : sysModules < h.objs.size) : ObjOk P w H (h.push { cls := .type "dict", data := .dict #[] }) h.objs.size (.dK []) :=
  ⟨Nat.zero_le _, beq_eq_false_iff_ne.mpr (Ne.symm (Nat.ne_of_lt hb)), [], .nil, Heap.DictOf.new h⟩
/-- {}, to be a dict of the kind that is wanted -/
noncomputable def tDNewK : TE := fun _ H Q => ∀ p, H p = none → Q (.ref p) (upd H p (.dK []))
section
variable {X : Cx} {pos : Pos}
theorem pe_dnewK : PE X (.Dict [] [] pos) tDNewK := fun pins s σ H Q I h =>
  wpAny_Dict_empty ⟨.ref s.heap.objs.size, _, I.laid (a := s.heap.objs.size) (o := .dK []) (t' := s.toks) (fun _ _ q => Heap.get?_push_of_some _ q) (Nat.le_refl _) (dk_empty s.heap I.big), rfl, h _ (I.hok.fresh (Nat.le_refl _))⟩
end




/-! ### methods -/


section
variable {X : Cx} {pins : List (Addr × Obj)} {σ : St} {H : Hp} {s : Shared} {a : Addr} {y d : V} {u r : Value} {o : Option V} {A : Around} {E : Value → Shared → Prop}
end

section
variable {X : Cx} {o e f : Expr} {apos cpos : Pos} {td ty tx : TE}
end

/-! ### dict(d): a copy -/
section
variable {X : Cx} {pins : List (Addr × Obj)} {σ : St} {H : Hp} {s : Shared} {a : Addr} {kvs : List (Key × V)} {A : Around} {E : Value → Shared → Prop}
theorem d_copyOf {Q : Value → Shared → Prop} (I : Inv X pins σ H s) (e : Rd H a (.dK kvs)) (h : ∀ p s', H p = none → Inv X pins σ (upd H p (.dK kvs)) s' → Q (.ref p) s') : wpAny (model X.prog X.w) A (call (.type "dict") [.ref a]) Q E s := by
  obtain ⟨z, hd, vs, rel, dd⟩ := dk_rd I.hok e
  refine kt_call_dict hd dd (by rw [← rel.length]; exact z) fun h' dd' hs => ?_
  refine h _ _ (I.hok.fresh (Nat.le_refl _)) (I.laid (a := s.heap.objs.size) (o := .dK kvs) (t' := s.toks) (fun b q hq => ?_) (Nat.le_refl _) (dk_new z (beq_eq_false_iff_ne.mpr (Ne.symm (Nat.ne_of_lt I.big))) rel dd'))
  exact (hs.2 b (Nat.ne_of_lt (Heap.lt_size hq))).trans (Heap.get?_push_of_some _ hq)
end


section
variable {X : Cx} {pins : List (Addr × Obj)} {σ : St} {H : Hp} {s : Shared} {a : Addr} {y : V} {u : Value} {A : Around} {E : Value → Shared → Prop}
end
end L2


namespace HT
open PySem PyProof.Rows



section
open PySem.SeqAt
open PySem.AutoSeq1 (wpAny_loadPart')
open PySem.MeetsSeq PySem.MeetsSeq2 PySem.MeetsSeq3

end

section
variable {prog : Program} {w : World} {A : Around} {E : Value → Shared → Prop} {s : Shared}



/-! ### t[a:b], not the whole -/
/-- a slice's bound as a place among n (d where it is left out) -/
noncomputable def sIx (n d : Nat) : Option Int → Nat
  | none => d
  | some v => if v < 0 then (v + (n : Int)).toNat else min v.toNat n
theorem sIx_nat (n d k : Nat) : sIx n d (some (k : Int)) = min k n := by
  show (if (k : Int) < 0 then ((k : Int) + (n : Int)).toNat else min (k : Int).toNat n) = min k n
  rw [if_neg (by omega), Int.toNat_natCast]

end
end HT

namespace L2
open PySem PySem.Spec PyProof.Rows

/-! ### the parts of a slice -/
noncomputable abbrev TO := St → Hp → (Option Int → Hp → Prop) → Prop
/-- a slice's part (left out, or an int) -/
noncomputable def PO (X : Cx) (e : Option Expr) (t : TO) : Prop :=
  ∀ (pins : List (Addr × Obj)) (s : Shared) (σ : St) (H : Hp) (Q : Option Int → Hp → Prop), Inv X pins σ H s → t σ H Q →
    wpAny (model X.prog X.w) X.A (evalPart e X.env) (fun u s' => ∃ o H', Inv X pins σ H' s' ∧ IsPart u o ∧ Q o H') X.xe s
noncomputable def tNoPart : TO := fun _ H Q => Q none H
noncomputable def tPart (t : TE) : TO := fun σ H Q => t σ H fun x H1 => ∃ i, x = .int i ∧ Q (some i) H1


section
variable {X : Cx} {e : Expr} {te : TE} {lo hi : Option Expr} {tl th : TO} {pos p2 : Pos}

theorem po_none : PO X none tNoPart := by
  intro pins s σ H Q I h
  rw [evalPart_none]
  exact wpAny_pure ⟨none, H, I, .none, h⟩
theorem po_some (h : PE X e te) : PO X (some e) (tPart te) := by
  intro pins s σ H Q I hw
  rw [evalPart_some]
  refine thn (h pins s σ H _ I hw) fun u s1 ⟨x, H1, I1, r1, q1⟩ => ?_
  obtain ⟨i, rfl, q⟩ := q1
  obtain ⟨t, rfl⟩ := r1
  exact ⟨some i, H1, I1, .int i t, q⟩

/-- what a slice of a value is, by values: the slice object stands at sl -/
noncomputable def SlR (X : Cx) (r : V → Option Int → Option Int → Hp → VK → Prop) : Prop :=
  ∀ (pins : List (Addr × Obj)) (s : Shared) (σ : St) (H : Hp) (x : V) (v vl vu : Value) (lo hi : Option Int) (sl : Addr) (Q : VK), Inv X pins σ H s → RelV x v → s.heap.IsSliceOf sl vl vu .none → IsPart vl lo → IsPart vu hi → r x lo hi H Q →
    ∃ T id, typeLookup (.type T) "__getitem__" = pure (some (.builtin id)) ∧ s.TypeIs v T ∧ wpAny (model X.prog X.w) X.A (getItem v (.ref sl)) (EP X pins σ Q) X.xe s
noncomputable def tSl (r : V → Option Int → Option Int → Hp → VK → Prop) (te : TE) (tl th : TO) : TE := fun σ H Q => te σ H fun x H1 => tl σ H1 fun l H2 => th σ H2 fun u H3 => r x l u H3 Q
/-- a[lo:hi], any a -/
theorem pe_slice {r : V → Option Int → Option Int → Hp → VK → Prop} (hr : SlR X r) (he : PE X e te) (hl : PO X lo tl) (hu : PO X hi th) : PE X (.Subscript e (.Slice lo hi none p2) pos) (tSl r te tl th) := by
  intro pins s σ H Q I h
  refine Subscript_ (thn (he pins s σ H _ I h) fun v s1 ⟨x, H1, I1, r1, q1⟩ => ?_)
  refine wpAny_Slice (thn (hl pins s1 σ H1 _ I1 q1) fun vl s2 ⟨l, H2, I2, pl, q2⟩ => thn (hu pins s2 σ H2 _ I2 q2) fun vu s3 ⟨u, H3, I3, pu, q3⟩ => ?_)
  rw [evalPart_none]
  refine wpAny_pure ?_
  have I4 : Inv X pins σ H3 { s3 with heap := s3.heap.push { cls := .type "slice", data := .fields #[vl, vu, .none] } } := I3.kept (t' := s3.toks) fun b ob q => Heap.get?_push_of_some _ q
  obtain ⟨T, id, hT, ht, hg⟩ := hr pins { s3 with heap := s3.heap.push { cls := .type "slice", data := .fields #[vl, vu, .none] } } σ H3 x v vl vu l u s3.heap.objs.size Q I4 r1 (Heap.IsSliceOf.new ..) pl pu q3
  show wpAny (model X.prog X.w) X.A (subscriptTail e (.Slice lo hi none p2) v (.ref s3.heap.objs.size)) (EP X pins σ Q) X.xe { s3 with heap := s3.heap.push { cls := .type "slice", data := .fields #[vl, vu, .none] } }
  exact tail_any (ops := [.ref s3.heap.objs.size, v]) ht hT hg (by with_unfolding_all rfl)

/-- the items of xs[lo:hi] -/
noncomputable def cutV (xs : List V) (lo hi : Option Int) : List V := (xs.drop (HT.sIx xs.length 0 lo)).take (HT.sIx xs.length xs.length hi - HT.sIx xs.length 0 lo)
theorem cutV_length (xs : List V) (lo hi : Option Int) : (cutV xs lo hi).length ≤ xs.length := by
  unfold cutV
  rw [List.length_take, List.length_drop]
  omega

/-! ### t < u, t + u -/
end
end L2

namespace L2
open PySem PySem.Spec PyProof.Rows

/-! ### places -/
/-- the place that an index of any sign means -/
noncomputable def ixN (n : Nat) (i : Int) : Option Nat := if 0 ≤ i then (if i < n then some i.toNat else none) else if -(n : Int) ≤ i then some (i + n).toNat else none
noncomputable def atI {α : Type} (xs : List α) (i : Int) : Option α := (ixN xs.length i).bind fun j => xs[j]?
theorem ixN_seq {n : Nat} {i : Int} {j : Nat} (h : ixN n i = some j) : seqIndex? i n = some j ∧ j < n ∧ -(n : Int) ≤ i ∧ i < n := by
  unfold ixN at h
  by_cases h0 : 0 ≤ i
  · rw [if_pos h0] at h
    by_cases h1 : i < n
    · rw [if_pos h1] at h
      have e : i.toNat = j := Option.some.inj h
      exact ⟨by rw [seqIndex_of h0 h1, e], by omega, by omega, h1⟩
    · rw [if_neg h1] at h; cases h
  · rw [if_neg h0] at h
    by_cases h1 : -(n : Int) ≤ i
    · rw [if_pos h1] at h
      have e : (i + n).toNat = j := Option.some.inj h
      exact ⟨by rw [seqIndex_neg (by omega) h1, e], by omega, h1, by omega⟩
    · rw [if_neg h1] at h; cases h
theorem atI_get {α : Type} {xs : List α} {i : Int} {v : α} (h : atI xs i = some v) : ∃ j, seqIndex? i xs.length = some j ∧ xs[j]? = some v ∧ j < xs.length ∧ -(xs.length : Int) ≤ i ∧ i < xs.length := by
  unfold atI at h
  cases e : ixN xs.length i with
  | none => rw [e] at h; cases h
  | some j =>
    rw [e] at h
    obtain ⟨h1, h2, h3, h4⟩ := ixN_seq e
    exact ⟨j, h1, h, h2, h3, h4⟩
theorem atI_nat {α : Type} {xs : List α} {j : Nat} {v : α} (h : xs[j]? = some v) : atI xs (j : Int) = some v := by
  have hj : j < xs.length := (List.getElem?_eq_some_iff.mp h).1
  have e : ixN xs.length (j : Int) = some j := by
    unfold ixN
    rw [if_pos (by omega), if_pos (by omega)]; simp
  unfold atI; rw [e]; exact h
theorem atI_last {α : Type} (xs : List α) (v : α) : atI (xs ++ [v]) (-1) = some v := by
  have hl : (xs ++ [v]).length = xs.length + 1 := by simp
  have e : ixN (xs ++ [v]).length (-1) = some xs.length := by
    unfold ixN
    rw [hl, if_neg (by decide), if_pos (by omega)]
    congr 1
    omega
  unfold atI
  rw [e]
  show (xs ++ [v])[xs.length]? = some v
  simp

/-! ### what may be subscripted -/
/-- what stands as an index of a plain subscript -/
noncomputable def PlainIx (b : Expr) : Prop := ∀ o i, subscripted b false o i = operate [o, i] (getItem o i)
/-- a subscript by values -/
noncomputable def IxR (X : Cx) (r : R2) : Prop :=
  ∀ (value slice : Expr) (pins : List (Addr × Obj)) (s : Shared) (σ : St) (H : Hp) (x y : V) (v u : Value) (Q : VK), Inv X pins σ H s → RelV x v → RelV y u → r x y H Q →
    subscripted slice false v u = operate [v, u] (getItem v u) → wpAny (model X.prog X.w) X.A (subscriptTail value slice v u) (EP X pins σ Q) X.xe s
/-- a call of a builtin's method by values: the receiver, the arguments -/
noncomputable def MtR (X : Cx) (id : String) (r : V → List V → Hp → VK → Prop) : Prop :=
  ∀ (pins : List (Addr × Obj)) (s : Shared) (σ : St) (H : Hp) (x : V) (xs : List V) (v : Value) (us : List Value) (Q : VK), Inv X pins σ H s → RelV x v → Vals xs us → r x xs H Q →
    wpAny (model X.prog X.w) X.A (call (.builtin id) (v :: us)) (EP X pins σ Q) X.xe s
section
variable {X : Cx} {a b : Expr} {ta tb : TE} {pos : Pos}
/-- a[b] -/
theorem pe_ix {r : R2} (hr : IxR X r) (ha : PE X a ta) (hb : PE X b tb) (hs : PlainIx b) : PE X (.Subscript a b pos) (tOp r ta tb) := by
  intro pins s σ H Q I h
  exact Subscript_ (binT ha hb I h fun v u s2 x y H2 I2 rx ry q => hr a b pins s2 σ H2 x y v u Q I2 rx ry q (hs _ _))

noncomputable def rIxL (K : PySem.W.Frag) : R2 := fun x y H Q => ∃ p xs i v, x = .ref p ∧ y = .int i ∧ SqL K H p xs ∧ atI xs i = some v ∧ Q v H
noncomputable def rIxT (K : PySem.W.Frag) : R2 := fun x y H Q => ∃ p xs i v, x = .ref p ∧ y = .int i ∧ SqT K H p xs ∧ atI xs i = some v ∧ Q v H
theorem ix_list : IxR X (rIxL X.K) := by
  intro value slice pins s σ H x y v u Q I rx ry h hs
  obtain ⟨p, xs, i, z, rfl, rfl, hq, he, q⟩ := h
  cases rx
  obtain ⟨t, rfl⟩ := ry
  obtain ⟨its, r, pl, hz⟩ := I.list hq
  obtain ⟨j, h1, h2, h3, h4, h5⟩ := atI_get he
  obtain ⟨w, ew, rw'⟩ := r.get h2
  have hl := r.length
  have hn := line63
  have fin : EP X pins σ Q w s := ⟨z, H, I, rw', q⟩
  by_cases h0 : 0 ≤ i
  · have hj : i.toNat = j := by
      rw [seqIndex_of h0 h5] at h1
      exact Option.some.inj h1
    exact item_listR pl.isList h0 (by omega) (by rw [hj]; simpa using ew) fin hs
  · have hj : (i + (its.toArray.size : Int)).toNat = j := by
      rw [seqIndex_neg (by omega) h4] at h1
      rw [List.size_toArray, ← hl]
      exact Option.some.inj h1
    exact subscriptTail_builtinR (x := w) pl.isList.typeIs slot_list_getitem.lookup
      (wpAny_getItem_list_neg (Q := fun r s' => r = w ∧ EP X pins σ Q r s') pl.isList (by omega) (by rw [List.size_toArray] <;> omega) (by omega) (by rw [hj]; simpa using ew) ⟨rfl, fin⟩) hs
theorem ix_tup : IxR X (rIxT X.K) := by
  intro value slice pins s σ H x y v u Q I rx ry h hs
  obtain ⟨p, xs, i, z, rfl, rfl, hq, he, q⟩ := h
  cases rx
  obtain ⟨t, rfl⟩ := ry
  obtain ⟨its, r, pl, hz⟩ := I.tuple hq
  obtain ⟨j, h1, h2, h3, h4, h5⟩ := atI_get he
  obtain ⟨w, ew, rw'⟩ := r.get h2
  have hl := r.length
  have hn := line63
  have fin : EP X pins σ Q w s := ⟨z, H, I, rw', q⟩
  exact subscriptTail_builtinR (x := w) pl.typeIs slot_tuple_getitem.lookup
    (getItem_tuple (j := j) (Q := fun r s' => r = w ∧ EP X pins σ Q r s') pl (by omega) (by omega) (by rw [List.size_toArray, ← hl]; exact h1) (by simpa using ew) ⟨rfl, fin⟩) hs

/-! ### xs[i] = v, any sign -/
/-- the list's object behind a store -/
theorem mapSeq_set (its : List Value) (n j : Nat) (u : Value) : Obj.mapSeq (·.setIfInBounds j u) { cls := .type "list", data := .seq its.toArray n } = { cls := .type "list", data := .seq (its.set j u).toArray n } := by
  simp [Obj.mapSeq]
theorem Inv.lst {pins : List (Addr × Obj)} {σ : St} {H : Hp} {s : Shared} {p : Addr} {xs : List V} (I : Inv X pins σ H s) (h : H p = some (.lst xs)) :
    ∃ (its : List Value) (n : Nat), Vals xs its ∧ s.heap.get? p = some { cls := .type "list", data := .seq its.toArray n } ∧ xs.length ≤ sizeLine := by
  obtain ⟨z, its, n, r, e⟩ := I.hok p _ h
  exact ⟨its, n, r, e, z⟩
/-- the list at p is written by an update of its object -/
theorem Inv.lstUpd {pins : List (Addr × Obj)} {σ : St} {H : Hp} {s : Shared} {p : Addr} {xs ys : List V} {its its' : List Value} {n n' : Nat} {f : Obj → Obj} (I : Inv X pins σ H s) (h : H p = some (.lst xs))
    (ho : s.heap.get? p = some { cls := .type "list", data := .seq its.toArray n }) (hf : f { cls := .type "list", data := .seq its.toArray n } = { cls := .type "list", data := .seq its'.toArray n' }) (r : Vals ys its') (hz : ys.length ≤ sizeLine) (t : Nat) :
    Inv X pins σ (upd H p (.lst ys)) { s with heap := s.heap.update p f, toks := t } := by
  have e : (s.heap.update p f).get? p = some { cls := .type "list", data := .seq its'.toArray n' } := by
    rw [Heap.get?_update_self f ho (by rw [hf] <;> rfl), hf]
  refine I.write (x := p) (e := p) (by rw [h]; trivial) (.inl rfl) (fun b u hb q => (Heap.get?_update_other _ _ (Ne.symm hb)).trans q) ⟨_, e⟩ ?_
  exact ⟨hz, its', n', r, e⟩
noncomputable def rSetL : V → V → V → Hp → (Hp → Prop) → Prop := fun o i v H Q => ∃ p xs k j, o = .ref p ∧ i = .int k ∧ H p = some (.lst xs) ∧ ixN xs.length k = some j ∧ Q (upd H p (.lst (xs.set j v)))
theorem set_list : PSet X rSetL := by
  intro pins s σ H o i v ov iv u Q I ro ri rv h
  obtain ⟨p, xs, k, j, rfl, rfl, hp, hj, q⟩ := h
  cases ro
  obtain ⟨t, rfl⟩ := ri
  obtain ⟨its, n, r, ho, hz⟩ := I.lst hp
  obtain ⟨h1, h2, h3, h4⟩ := ixN_seq hj
  have hl := r.length
  have hn := line63
  have I' : Inv X pins σ (upd H p (.lst (xs.set j v))) { s with heap := s.heap.update p (Obj.mapSeq (·.setIfInBounds j u)) } :=
    I.lstUpd hp ho (mapSeq_set its n j u) (r.set rv j) (by rw [List.length_set]; exact hz) s.toks
  by_cases h0 : 0 ≤ k
  · have hk : k.toNat = j := by
      rw [seqIndex_of h0 h4] at h1
      exact Option.some.inj h1
    exact PySem.W.ki_setAt ho h0 (by omega) (by rw [List.size_toArray, ← hl]; exact h4) (by rw [hk]; exact ⟨_, I', q⟩)
  · have hk : (k + (its.toArray.size : Int)).toNat = j := by
      rw [seqIndex_neg (by omega) h3] at h1
      rw [List.size_toArray, ← hl]
      exact Option.some.inj h1
    exact PySem.W.ki_setBack ho (by omega) (by rw [List.size_toArray, ← hl]; exact h3) (by omega) (by rw [hk]; exact ⟨_, I', q⟩)

/-! ### slices -/
theorem slice_bounds (lo hi : Option Int) (n : Nat) : (sliceBounds lo hi none n).1 = ((HT.sIx n 0 lo : Nat) : Int) ∧ (sliceBounds lo hi none n).2.1 = ((HT.sIx n n hi : Nat) : Int) ∧ (sliceBounds lo hi none n).2.2 = 1 := by
  refine ⟨?_, ?_, rfl⟩
  · cases lo with
    | none => simp [sliceBounds, HT.sIx]
    | some i =>
      simp only [sliceBounds, HT.sIx, Option.getD_none, show (1 : Int) > 0 by decide, if_true]
      by_cases h : i < 0
      · simp only [h, if_true] <;> omega
      · simp only [h, if_false] <;> omega
  · cases hi with
    | none => simp [sliceBounds, HT.sIx]
    | some i =>
      simp only [sliceBounds, HT.sIx, Option.getD_none, show (1 : Int) > 0 by decide, if_true]
      by_cases h : i < 0
      · simp only [h, if_true] <;> omega
      · simp only [h, if_false] <;> omega
theorem slicePick_cut (its : List Value) (lo hi : Option Int) : slicePick its.toArray lo hi none = ((its.drop (HT.sIx its.length 0 lo)).take (HT.sIx its.length its.length hi - HT.sIx its.length 0 lo)).toArray := by
  obtain ⟨h1, h2, h3⟩ := slice_bounds lo hi its.toArray.size
  unfold slicePick
  rw [h1, h2, h3]
  simp only [sliceRange_one, pick_run, List.size_toArray] <;> rfl
/-- xs[lo:hi] of a list: a new list -/
noncomputable def rSlL (K : PySem.W.Frag) : V → Option Int → Option Int → Hp → VK → Prop := fun x lo hi H Q => ∃ a xs, x = .ref a ∧ SqL K H a xs ∧ ∀ p, H p = none → Q (.ref p) (upd H p (.lst (cutV xs lo hi)))
theorem sl_list : SlR X (rSlL X.K) := by
  intro pins s σ H x v vl vu lo hi sl Q I rx hs pl pu h
  obtain ⟨a, xs, rfl, hx, q⟩ := h
  cases rx
  obtain ⟨its, r, ht, hz⟩ := I.list hx
  have hlen := r.length
  refine ⟨"list", _, slot_list_getitem.lookup, ht.isList.typeIs, ?_⟩
  refine wpAny_getItem_list_slice ht.isList hs pl pu .none (by simp) ?_ (by rw [List.size_toArray] <;> omega)
  rw [slicePick_cut, ← hlen]
  refine ⟨.ref s.heap.objs.size, _, I.laid (t' := s.toks) (o := .lst (cutV xs lo hi)) (fun b ob q => Heap.get?_push_of_some _ q) (Nat.le_refl _) ?_, rfl, q _ (I.hok.fresh (Nat.le_refl _))⟩
  exact ⟨Nat.le_trans (cutV_length xs lo hi) hz, _, 0, (r.drop (HT.sIx xs.length 0 lo)).take (HT.sIx xs.length xs.length hi - HT.sIx xs.length 0 lo), Heap.get?_push_size _ rfl⟩

/-! ### in, not in: flat items -/

/-! ### len, list(x), tuple(x) of any list or tuple that is read -/
theorem call_len_seq : CallR X (.builtin "len") (fun xs H Q => ∃ p ys, xs = [.ref p] ∧ (SqL X.K H p ys ∨ SqT X.K H p ys) ∧ Q (.int ys.length) H) := by
  intro pins s σ H xs us Q I r h
  obtain ⟨p, ys, rfl, hq, q⟩ := h
  obtain ⟨u, rfl, rx⟩ := vals1 r
  cases rx
  have hn := line63
  rcases hq with hq | hq
  · obtain ⟨its, r', pl, hz⟩ := I.list hq
    have hlen := r'.length
    exact Calls.call_len_list pl.isList (by simp only [List.size_toArray] <;> omega) ⟨.int ys.length, H, I.tok _, ⟨s.toks + 1, by rw [List.size_toArray, hlen]⟩, q⟩
  · obtain ⟨its, r', pl, hz⟩ := I.tuple hq
    have hlen := r'.length
    exact len_tuple pl (by simp only [List.size_toArray] <;> omega) ⟨.int ys.length, H, I.tok _, ⟨s.toks + 1, by rw [List.size_toArray, hlen]⟩, q⟩
theorem call_list_of : CallR X (.type "list") (fun xs H Q => ∃ p ys, xs = [.ref p] ∧ (SqL X.K H p ys ∨ SqT X.K H p ys) ∧ ∀ l, H l = none → Q (.ref l) (upd H l (.lst ys))) := by
  intro pins s σ H xs us Q I r h
  obtain ⟨p, ys, rfl, hq, q⟩ := h
  obtain ⟨u, rfl, rx⟩ := vals1 r
  cases rx
  have fin : ∀ (its : List Value), Vals ys its → ys.length ≤ sizeLine → ∀ (h' : Heap) (c' : Nat), (∀ b o', s.heap.get? b = some o' → h'.get? b = some o') →
      h'.get? s.heap.objs.size = some { cls := .type "list", dict := none, data := .seq its.toArray c', slots := #[] } → EP X pins σ Q (.ref s.heap.objs.size) { s with heap := h' } := fun its r' hz h' c' kp e =>
    ⟨.ref s.heap.objs.size, _, I.laid (t' := s.toks) kp (Nat.le_refl _) (show ObjOk X.prog X.w _ h' _ (.lst ys) from ⟨hz, its, c', r', e⟩), rfl, q _ (I.hok.fresh (Nat.le_refl _))⟩
  rcases hq with hq | hq
  · obtain ⟨its, r', pl, hz⟩ := I.list hq
    have hlen := r'.length
    obtain ⟨o, ho, hc, n, hd⟩ := pl.isList
    exact call_list_seq p (.inl rfl) ho hc hd (fun h' c' kp e => fin its r' hz h' c' kp e) (by simp only [List.size_toArray] <;> omega)
  · obtain ⟨its, r', pl, hz⟩ := I.tuple hq
    have hlen := r'.length
    obtain ⟨o, ho, hc, n, hd⟩ := pl
    exact call_list_seq p (.inr rfl) ho hc hd (fun h' c' kp e => fin its r' hz h' c' kp e) (by simp only [List.size_toArray] <;> omega)

/-! ### the call of a builtin's method: o.m(..) -/
/-- the value is of that builtin type -/
noncomputable def tyV (K : PySem.W.Frag) (T : String) (x : V) (H : Hp) : Prop := match x with
  | .str _ => T = "str"
  | .int _ => T = "int"
  | .ref p => (T = "list" ∧ ∃ xs, SqL K H p xs) ∨ (T = "tuple" ∧ ∃ o, K.lookup p = some o ∧ o.cls = .type "tuple" ∧ o.dict = none) ∨
      (T = "dict" ∧ ((∃ kvs, H p = some (.dK kvs)) ∨ ∃ kvs, H p = some (.dT kvs))) ∨ (T = "set" ∧ ∃ S n, H p = some (.set S n))
  | _ => False
theorem tyV_is {pins : List (Addr × Obj)} {σ : St} {H : Hp} {s : Shared} {T : String} {x : V} {v : Value} (I : Inv X pins σ H s) (r : RelV x v) (ty : tyV X.K T x H) :
    s.TypeIs v T ∧ ∀ a, v = .ref a → ∃ ob, s.heap.get? a = some ob ∧ ob.dict = none := by
  cases x with
  | str z =>
    obtain ⟨t, rfl⟩ := r
    cases (show T = "str" from ty)
    exact ⟨typeIs_str s z t, fun _ e => nomatch e⟩
  | int i =>
    obtain ⟨t, rfl⟩ := r
    cases (show T = "int" from ty)
    exact ⟨typeIs_int s i t, fun _ e => nomatch e⟩
  | ref p =>
    cases r
    rcases ty with ⟨rfl, xs, hq⟩ | ⟨rfl, o, hk, hc, hd⟩ | ⟨rfl, hk⟩ | ⟨rfl, S, n, hk⟩
    · obtain ⟨its, _, pl, _⟩ := I.list hq
      refine ⟨pl.isList.typeIs, fun a e => ?_⟩
      cases e
      obtain ⟨o, n, e, c, hd, _⟩ := pl
      exact ⟨o, e, hd⟩
    · refine ⟨⟨o, I.kIn p o hk, hc⟩, fun a e => ?_⟩
      cases e
      exact ⟨o, I.kIn _ o hk, hd⟩
    · have z : ∃ o, s.heap.get? p = some o ∧ o.ExactDict := by
        rcases hk with ⟨kvs, hk⟩ | ⟨kvs, hk⟩
        · obtain ⟨_, _, _, _, o, _, _, e, ex, _⟩ := I.hok p _ hk
          exact ⟨o, e, ex⟩
        · obtain ⟨_, _, _, _, o, _, _, e, ex, _⟩ := I.hok p _ hk
          exact ⟨o, e, ex⟩
      obtain ⟨o, e, ex⟩ := z
      refine ⟨⟨o, e, ex.1⟩, fun a e2 => ?_⟩
      cases e2
      exact ⟨o, e, ex.2.1⟩
    · obtain ⟨o, _, _, _, e, ex, _⟩ := I.hok p _ hk
      refine ⟨⟨o, e, ex.1⟩, fun a e2 => ?_⟩
      cases e2
      exact ⟨o, e, ex.2.1⟩
  | _ => exact False.elim ty
noncomputable def tBM0 (K : PySem.W.Frag) (T : String) (r : V → List V → Hp → VK → Prop) (to : TE) : TE := fun σ H Q => to σ H fun x H1 => tyV K T x H1 ∧ r x [] H1 Q
noncomputable def tBM (K : PySem.W.Frag) (T : String) (r : V → List V → Hp → VK → Prop) (to : TE) (t : TA) : TE := fun σ H Q => to σ H fun x H1 => tyV K T x H1 ∧ t σ H1 fun xs H2 => r x xs H2 Q
variable {o e : Expr} {es : List Expr} {to : TE} {t : TA} {name : Str} {apos cpos : Pos} {T id : String} {r : V → List V → Hp → VK → Prop}
theorem pe_bm0 (pa : PlainAttrs T) (slot : Slot T name id) (hty : typeOf (.builtin id) = pure (.type "method_descriptor")) (hm : MtR X id r) (ho : PE X o to)
    (hbase : attributeBase o name X.env (eval o X.env) = eval o X.env := by rfl) (hline : (apos.endLine == cpos.line) = true := by rfl) : PE X (.Call (.Attribute o name apos) [] [] cpos) (tBM0 X.K T r to) := by
  intro pins s σ H Q I h
  refine wpAny_Call_method0_late hbase hline (thn (ho pins s σ H _ I h) fun v s1 ⟨x, H1, I1, r1, ty, q1⟩ => ?_)
  obtain ⟨h1, h2⟩ := tyV_is I1 r1 ty
  exact ⟨T, id, pa, slot, hty, h1, h2, Calls.callWith_builtin rfl (PySem.evalArgs_none (hm pins s1 σ H1 x [] v [] Q I1 r1 .nil q1))⟩
theorem pe_bm (pa : PlainAttrs T) (slot : Slot T name id) (hty : typeOf (.builtin id) = pure (.type "method_descriptor")) (hm : MtR X id r) (ho : PE X o to) (ha : PA X (e :: es) t)
    (hbase : attributeBase o name X.env (eval o X.env) = eval o X.env := by rfl)
    (hfew : ((backTo cpos (starEach (e :: es) X.env)).all (fun x => !x.1) && (backToKw cpos (keywordEach [] X.env)).all (fun x => x.1.isSome)
      && decide ((e :: es).length + ([] : List Keyword).length + (if ([] : List Keyword).isEmpty then 0 else 1) < 30)) = true := by rfl)
    (hline : (apos.endLine == cpos.line) = true := by rfl) (hs : starEach (e :: es) X.env = (false, eval e X.env) :: starEach es X.env := by rfl) (hplain : (backTo cpos (starEach es X.env)).any (·.1) = false := by rfl) :
    PE X (.Call (.Attribute o name apos) (e :: es) [] cpos) (tBM X.K T r to t) := by
  intro pins s σ H Q I h
  refine wpAny_Call_method_late hbase hfew hline rfl (thn (ho pins s σ H _ I h) fun v s1 ⟨x, H1, I1, r1, ty, q1⟩ => ?_)
  obtain ⟨h1, h2⟩ := tyV_is I1 r1 ty
  refine ⟨T, id, pa, slot, hty, h1, h2, ?_⟩
  have hA := ha cpos pins s1 σ H1 _ I1 q1
  rw [hs] at hA ⊢
  refine Calls.callWith_builtin (by show (false || (backTo cpos (starEach es X.env)).any (·.1)) = false; rw [hplain] <;> rfl) (Calls.evalArgs_plain ?_)
  exact thn hA fun us s2 ⟨vs, H2, I2, r2, q2⟩ => hm pins s2 σ H2 x vs v us Q I2 r1 r2 q2
/- xs.append(e), list.index on a module's tuple .. are MtR facts of 06m -/
end
end L2

namespace L2
open PySem PySem.Spec PyProof.Rows

noncomputable def MtM (X : Cx) (id : String) (r : V → List V → Hp → VK → Prop) : Prop :=
  ∀ (pins : List (Addr × Obj)) (s : Shared) (σ : St) (H : Hp) (x : V) (xs : List V) (v : Value) (us : List Value) (Q : VK), Inv X pins σ H s → RelV x v → Vals xs us → r x xs H Q →
    wpAny (model X.prog X.w) X.A (call (.builtin id) (v :: us)) (EP X pins σ Q) X.xe s

/-! ### lists of values -/
theorem Vals.one : ∀ {x : V} {us : List Value}, Vals [x] us → ∃ u, us = [u] ∧ RelV x u
  | _, _, .cons r .nil => ⟨_, rfl, r⟩
theorem Vals.zero : ∀ {us : List Value}, Vals [] us → us = []
  | _, .nil => rfl
theorem Vals.dropLast {xs : List V} {us : List Value} (h : Vals xs us) : Vals xs.dropLast us.dropLast := by
  induction h with
  | nil => exact .nil
  | cons r t ih =>
    cases t with
    | nil => exact .nil
    | cons q t' => exact .cons r ih
theorem Vals.rep {xs : List V} {us : List Value} (h : Vals xs us) : ∀ k : Nat, Vals (List.replicate k xs).flatten (List.replicate k us).flatten
  | 0 => .nil
  | k + 1 => by
    rw [List.replicate_succ, List.replicate_succ, List.flatten_cons, List.flatten_cons]
    exact Vals.append h (Vals.rep h k)
theorem erase_last {α : Type} (l : List α) : l.eraseIdx (l.length - 1) = l.dropLast := by
  induction l with
  | nil => rfl
  | cons a r ih =>
    cases r with
    | nil => rfl
    | cons b r =>
      have e : (a :: b :: r).length - 1 = ((b :: r).length - 1) + 1 := by
        have h1 : (a :: b :: r).length = r.length + 2 := rfl
        have h2 : (b :: r).length = r.length + 1 := rfl
        omega
      rw [e, List.eraseIdx_cons_succ, ih]
      all_goals rfl
theorem foldl_rep (its : List Value) : ∀ (k : Nat) (acc : List Value),
    List.foldl (fun x1 x2 => x1 ++ x2) acc.toArray (List.replicate k its.toArray) = (acc ++ (List.replicate k its).flatten).toArray
  | 0, acc => by simp
  | k + 1, acc => by
    have e : acc.toArray ++ its.toArray = (acc ++ its).toArray := by simp
    have e2 : (acc ++ its) ++ (List.replicate k its).flatten = acc ++ (List.replicate (k + 1) its).flatten := by
      rw [List.replicate_succ, List.flatten_cons, List.append_assoc]
    rw [← e2, ← foldl_rep its k (acc ++ its), ← e, List.replicate_succ, List.foldl_cons]

section
variable {X : Cx} {pins : List (Addr × Obj)} {σ : St} {H : Hp} {s : Shared} {l b : Addr} {xs ys zs : List V}

/-! ### the two steps: a tracked list is rewritten, a new list is laid -/
theorem Inv.lset {its its' : List Value} {n : Nat} {f : Array Value → Array Value} {t' : Nat} (I : Inv X pins σ H s) (hH : H l = some (.lst xs))
    (e : s.heap.get? l = some { cls := .type "list", data := .seq its.toArray n }) (hf : f its.toArray = its'.toArray) (hv : Vals ys its') (hz : ys.length ≤ sizeLine) :
    Inv X pins σ (upd H l (.lst ys)) { s with heap := s.heap.update l (Obj.mapSeq f), toks := t' } := by
  have q := PySem.IsL.update e f
  rw [hf] at q
  refine I.write (x := l) (e := l) (by rw [hH]; exact trivial) (.inl rfl) (fun b' u hb hu => (Heap.get?_update_other s.heap (Obj.mapSeq f) (Ne.symm hb)).trans hu) ⟨_, q⟩ ?_
  exact ⟨hz, its', _, hv, q⟩
theorem Inv.lnew {its : List Value} {t' : Nat} (I : Inv X pins σ H s) (hv : Vals ys its) (hz : ys.length ≤ sizeLine) :
    Inv X pins σ (upd H s.heap.objs.size (.lst ys)) { s with heap := s.heap.push { cls := .type "list", data := .seq its.toArray }, toks := t' } :=
  I.laid (fun _ _ q => Heap.get?_push_of_some _ q) (Nat.le_refl _) ⟨hz, its, 0, hv, Heap.get?_push_size _ rfl⟩
theorem Inv.fresh (I : Inv X pins σ H s) : H s.heap.objs.size = none := I.hok.fresh (Nat.le_refl _)
theorem Inv.lstM (I : Inv X pins σ H s) (hH : H l = some (.lst xs)) : xs.length ≤ sizeLine ∧ ∃ (its : List Value) (n : Nat), Vals xs its ∧ xs.length = its.length ∧ s.heap.get? l = some { cls := .type "list", data := .seq its.toArray n } := by
  obtain ⟨z, its, n, r, e⟩ := I.hok l _ hH
  exact ⟨z, its, n, r, r.length, e⟩

theorem notLongL {n : Nat} (h : n ≤ sizeLine) : Builtin.List.listTooLong n = false := by
  unfold Builtin.List.listTooLong
  exact decide_eq_false (by omega)
end

section
variable {X : Cx}

/-! ### methods -/
noncomputable def rAppend : V → List V → Hp → VK → Prop := fun x vs H Q => ∃ l xs y, x = .ref l ∧ vs = [y] ∧ H l = some (.lst xs) ∧ xs.length < sizeLine ∧ Q .non (upd H l (.lst (xs ++ [y])))
theorem mt_append : MtM X "list.append" rAppend := by
  intro pins s σ H x vs v us Q I rx rv h
  obtain ⟨l, xs, y, rfl, rfl, hH, hz, q⟩ := h
  cases rx
  obtain ⟨u, rfl, ru⟩ := rv.one
  obtain ⟨z, its, n, r, hl, e⟩ := I.lstM hH
  refine call_meets F.slot_list_append ⟨_, e, rfl⟩ F.entry_list_append (F.args_list_append_2 _ _) (PySem.list_append l its.toArray n u (by rw [List.size_toArray]; omega)) ⟨e, ?_⟩
  refine ⟨.non, _, I.lset (its' := its ++ [u]) hH e (by simp) (r.append (.cons ru .nil)) ?_, rfl, q⟩
  rw [List.length_append, List.length_singleton]
  omega

noncomputable def rExtend : V → List V → Hp → VK → Prop := fun x vs H Q => ∃ l b xs zs, x = .ref l ∧ vs = [.ref b] ∧ H l = some (.lst xs) ∧ H b = some (.lst zs) ∧ xs.length + zs.length ≤ sizeLine ∧ Q .non (upd H l (.lst (xs ++ zs)))
theorem mt_extend : MtM X "list.extend" rExtend := by
  intro pins s σ H x vs v us Q I rx rv h
  obtain ⟨l, b, xs, zs, rfl, rfl, hH, hB, hz, q⟩ := h
  cases rx
  obtain ⟨u, rfl, ru⟩ := rv.one
  cases ru
  obtain ⟨z, its, n, r, hl, e⟩ := I.lstM hH
  obtain ⟨z2, its2, n2, r2, hl2, e2⟩ := I.lstM hB
  have hsz : its.toArray.size + its2.toArray.size ≤ sizeLine := by rw [List.size_toArray, List.size_toArray]; omega
  have hlong : ¬ (!its.toArray.isEmpty && Builtin.List.listTooLong (its.toArray.size + its2.toArray.size)) = true := by
    rw [notLongL hsz, Bool.and_false]
    exact Bool.false_ne_true
  refine call_meets F.slot_list_extend ⟨_, e, rfl⟩ F.entry_list_extend (F.args_list_extend_2 _ _)
    (AutoSeq1.list_extend_list_list_0 l its.toArray n b its2.toArray n2 hlong (by rw [List.size_toArray]; omega) (by omega)) ⟨e, e2, ?_⟩
  refine ⟨.non, _, I.lset (its' := its ++ its2) hH e (by simp) (r.append r2) ?_, rfl, q⟩
  rw [List.length_append]
  omega

noncomputable def rPop : V → List V → Hp → VK → Prop := fun x vs H Q => ∃ l xs y, x = .ref l ∧ vs = [] ∧ H l = some (.lst xs) ∧ xs[xs.length - 1]? = some y ∧ Q y (upd H l (.lst xs.dropLast))
theorem mt_pop : MtM X "list.pop" rPop := by
  intro pins s σ H x vs v us Q I rx rv h
  obtain ⟨l, xs, y, rfl, rfl, hH, hy, q⟩ := h
  cases rx
  have hus := rv.zero
  subst hus
  obtain ⟨z, its, n, r, hl, e⟩ := I.lstM hH
  obtain ⟨u, hu, ru⟩ := r.get hy
  have hy' : its.toArray[its.toArray.size - 1]? = some u := by
    show its.toArray[its.length - 1]? = some u
    rw [← Array.getElem?_toList, ← hl]
    exact hu
  refine call_meets F.slot_list_pop ⟨_, e, rfl⟩ F.entry_list_pop (F.args_list_pop_1 _) (MeetsSeq.list_pop_last l its.toArray n u hy' (by rw [List.size_toArray]; omega)) ⟨e, ?_⟩
  refine ⟨y, _, I.lset (its' := its.dropLast) hH e ?_ r.dropLast ?_, ru, q⟩
  · show its.toArray.eraseIdxIfInBounds (its.toArray.size - 1) = its.dropLast.toArray
    rw [List.size_toArray, List.eraseIdxIfInBounds_toArray, erase_last]
  · rw [List.length_dropLast]
    omega




/-! ### list + list, list += list, list * int -/
/-- a list times an int (a negative one is nothing) -/
noncomputable def rRep : R2 := fun x y H Q => ∃ l k xs, x = .ref l ∧ y = .int k ∧ H l = some (.lst xs) ∧ -(2 ^ 63) ≤ k ∧ k < 2 ^ 63 ∧ xs.length * k.toNat ≤ sizeLine ∧
  ∀ p, H p = none → Q (.ref p) (upd H p (.lst (List.replicate k.toNat xs).flatten))
theorem len_rep {α : Type} (xs : List α) (k : Nat) : (List.replicate k xs).flatten.length = k * xs.length := by
  induction k with
  | zero => simp
  | succ k ih => rw [List.replicate_succ, List.flatten_cons, List.length_append, ih, Nat.succ_mul, Nat.add_comm]
theorem op_rep : OpR X (binaryOp .Mult) rRep := by
  intro pins s σ H x y v u Q I rx ry h
  obtain ⟨l, k, xs, rfl, rfl, hH, h1, h2, hz, q⟩ := h
  cases rx
  obtain ⟨t, rfl⟩ := ry
  obtain ⟨z, its, n, r, hl, e⟩ := I.lstM hH
  have hlen : its.toArray.size * k.toNat ≤ sizeLine := by rw [List.size_toArray, ← hl]; exact hz
  have hcap : ¬ its.toArray.size * k.toNat > (2 ^ 63 - 1) / 8 := by
    have : (sizeLine : Nat) ≤ (2 ^ 63 - 1) / 8 := by decide
    omega
  have hfit : ¬ (!Builtin.List.listFitsIndex k) = true := by
    rw [fitsIndex_both h1 h2]
    exact Bool.false_ne_true
  have hlong : ¬ Builtin.List.listTooLong (its.toArray.size * k.toNat) = true := by
    rw [notLongL hlen]
    exact Bool.false_ne_true
  have hnew : List.foldl (fun x1 x2 => x1 ++ x2) #[] (List.replicate (if its.toArray.isEmpty = true then 0 else k.toNat) its.toArray) = (List.replicate k.toNat its).flatten.toArray := by
    have f0 : ∀ m : Nat, List.foldl (fun x1 x2 => x1 ++ x2) #[] (List.replicate m its.toArray) = (List.replicate m its).flatten.toArray := fun m => by
      have := foldl_rep its m []
      rw [List.nil_append] at this
      exact this
    rw [f0]
    cases its with
    | nil => simp
    | cons a r' => rw [if_neg (by simp)]
  refine wpAny_binaryOp_repeat_ref (T := "list") (U := "int") (by decide) ⟨_, e, rfl⟩ (fun s' => typeIs_int s' k t) noFill_list_mul F.fills_int_mul F.slot_int_rmul repeat_list F.slot_int_index.lookup
    (call_meets F.slot_int_rmul (typeIs_int s k t) F.entry_int_rmul (F.args_int_rmul_2 _ _) (int___rmul___int_list k t l its.toArray n)
      ⟨e, rfl, ⟨_, e, rfl⟩, call_meets F.slot_list_mul ⟨_, e, rfl⟩ F.entry_list_mul (F.args_list_mul_2 _ _) (AutoListH.list___mul___list_int_3 l its.toArray n k t hfit hcap hlong) ⟨e, ?_⟩⟩)
  rw [hnew]
  exact ⟨.ref _, _, I.lnew (t' := s.toks) (r.rep k.toNat) (by rw [len_rep, Nat.mul_comm]; exact hz), rfl, q _ I.fresh⟩

/-! ### del xs[i] -/
end

/-! ### xs[a:b] = ys -/
section
variable {prog : Program} {w : World} {A : Around} {E : Value → Shared → Prop} {s : Shared}
set_option maxRecDepth 100000 in
end

section
variable {X : Cx}
end
end L2

namespace Att
open PySem PySem.W PySem.Calls PyProof.Rows

/-! ### the script -/
theorem ints_of_wellAll {P : Params} {h : Heap} : ∀ (ns : List Int) (vs : List Value), WellAll P h vs (ns.map WData.int) → IntsAre vs ns := by
  intro ns
  induction ns with
  | nil =>
    intro vs w
    rw [List.map_nil] at w
    cases w
    exact .nil
  | cons n ns ih =>
    intro vs w
    rw [List.map_cons] at w
    cases w with
    | cons a b =>
      cases a
      exact .cons _ _ (ih _ b)

theorem script_of {l : OpenLaw} {n : Nat} (hn : l.most = some n) {P : Params} {h : Heap} {args : List WData} {vals : List Value}
    (hpre : l.row.toRowW.claim.pre args = true) (hwl : WellAll P h vals args) :
    ∃ a vs ns, vals = [Value.ref a] ∧ args = [WData.list (ns.map WData.int)] ∧ h.get? a = some { cls := .type "list", data := .seq vs.toArray } ∧ IntsAre vs ns ∧ ns.length ≤ n := by
  have hsh : WShape.hasAll [] args [.list .int] = true := (pre_splitW hpre).1
  have hc : l.pre.holds [] { args := args } = true := (pre_splitW hpre).2
  obtain ⟨d, r, rfl, h1, h2⟩ := hasAllW_cons hsh
  obtain rfl := hasAllW_nil h2
  obtain ⟨xs, rfl, h3⟩ := hasW_list h1
  obtain ⟨ns, rfl⟩ := items_int h3
  have hlen : ns.length ≤ n := by
    unfold OpenLaw.pre at hc
    have h4 : (WTm.not (.lt (.lit (.int (n : Int))) (.len (.arg 0)))).holds [] { args := [.list (ns.map .int)] } = true := by
      have h4 := (holds_andW hc).1
      rw [hn] at h4
      exact h4
    have h5 := condW_of h4 (w_not (w_lt w_lit (w_len_list (w_arg rfl))))
    rw [List.length_map] at h5
    refine Nat.le_of_not_lt fun q => ?_
    have q' : (n : Int) < ((ns.length : Nat) : Int) := by omega
    first
      | (rw [decide_eq_true q'] at h5; exact absurd h5 (by decide))
      | (simp at h5; omega)
  cases hwl with
  | cons w1 w2 =>
    cases w2
    cases w1 with
    | list ho hall => exact ⟨_, _, ns, rfl, rfl, ho, ints_of_wellAll ns _ hall, hlen⟩

theorem post_true (l : OpenLaw) (args : List WData) : l.row.toRowW.claim.post args (.bool true) args = true :=
  postW_of (r := l.row.toRowW) (X := (true == true))
    (show WShape.has [] (.bool true) .bool = true by first | rfl | decide | simp [WShape.has, WShape.arms, WShape.armsAll])
    (show (WTm.eq .res (.lit (.bool true))).value [] { args := args, res := some (.bool true), after := args } = some (.bool (true == true)) from w_eq_bool (w_res rfl) w_lit) rfl

/-! ### the attachment: holds_open's last premise (the goal 'hc' behind k_head) from a wpAny of the law's body -/

/-- the same from a codeAny of the CALL (for a layer whose function contracts speak of calls) -/
theorem attach_call {l : OpenLaw} {n : Nat} {q : Program} {loose : List Str} {XP : (Str → Option Value) → Heap → Prop} {YP : World → Heap → Prop} {d : DefRec}
    (hn : l.most = some n) (hdf : d.params.defaults = [])
    (call : ∀ (w : World) (s₀ s₁ : Shared) (mg mb : Str → Option Value) (fa : Addr) (o : Obj) (pm cd doc : Value) (a : Addr) (vs : List Value) (ns : List Int),
      Ground q loose [] XP w s₀ mg mb s₁.heap → YP w s₁.heap →
      s₁.heap.get? fa = some o → o.data = .func (docDef d.name d.params d.body d.scope pm cd doc) → s₁.heap.CodeRec cd d.name → mg d.name = some (.ref fa) →
      s₁.heap.get? a = some { cls := .type "list", data := .seq vs.toArray } → IntsAre vs ns → ns.length ≤ n → s₁.gens = #[] →
      codeAny (model l.prog w) callerA (.call (.ref fa) ⟨[.ref a], []⟩) (fun r s' => r = .ok (.ret (.bool true)) ∧ OldK s₁.heap s'.heap ∧ s'.os = s₁.os ∧ AllBare s'.gens) s₁) :
    WalkO q loose XP YP l.row.toRowW d [] (fun f vs => PySem.call f vs) := by
  intro w s₀ s₁ mg mb G Y fa o pm cd doc dV kV ho hd hcd hD hmg hg args vals as hpre hlay hrd hwl hlo
  obtain rfl : dV = .none := Dflts.none hD hdf
  obtain rfl : kV = .none := Dflts.noKw hD
  obtain ⟨a, vs, ns, rfl, rfl, hobj, hints, hlen⟩ := script_of hn hpre hwl
  refine enter_call (codeAny_mono (call w s₀ s₁ mg mb fa o pm cd doc a vs ns G Y ho (fd_plain hd) hcd hmg hobj hints hlen hg) fun r s' hq => ?_)
  obtain ⟨rfl, h2, h3, h4⟩ := hq
  exact ⟨.inl ⟨.bool true, .bool true, [], rfl, fun _ => rfl, .bool true, post_true l _, fun _ => ⟨List.Pairwise.nil, fun _ hm => (nomatch hm)⟩⟩, h2, h3, h4⟩


/-! ### rules over ANY heap (no ledger) from facts about the written part K: the library's own take a ledger (News) for what they write -/
section
variable {prog : Program} {w : World} {A : Around} {E : Value → Shared → Prop} {s : Shared} {K : Frag}





/-! the whole heap as the ledger: makes every rule that writes through a ledger a rule over any heap -/

end
end Att

namespace L2
open PySem PySem.Spec PyProof.Rows

theorem vals_ints : ∀ {vs : List Value} {ns : List Int}, IntsAre vs ns → Vals (ns.map V.int) vs
  | _, _, .nil => .nil
  | _, _, .cons n t h => .cons ⟨t, rfl⟩ (vals_ints h)

/-- nothing is tracked but the script, known to the object (or it is an object of the module) -/
noncomputable def Only (H : Hp) : Prop := ∀ b, H b = none ∨ ∃ o xs, H b = some (.frz o (.lst xs))

/-- THE HEAD: the law's promise, at the heap behind the top. F, the promise of the law's def, may use that base is part of the heap (so K.In base, base.Ns mainGlobals mg stand in Mod) -/
theorem law_call {P : Program} {w : World} {K : PySem.W.Frag} {mg mb : Str → Option Value} {CX : CXT} {k : Nat} {fa a : Addr} {fd : FuncData} {x : Str} {sp : Sp} {s₁ : Shared} {vs : List Value} {ns : List Int}
    (KX : K.In s₁.heap) (hns : s₁.heap.Ns mainGlobals mg) (hb : s₁.heap.Ns builtinsNs mb) (hbb : ∀ x : Str, x ≠ "__name__" → mb x = bootBuiltins x) (hlim : s₁.heap.NoLimit) (hg : s₁.gens = #[])
    (ha : s₁.heap.get? a = some { cls := .type "list", data := .seq vs.toArray }) (hi : IntsAre vs ns) (hl : ns.length ≤ sizeLine) (hr : Room k callerA)
    (F : ∀ base : Heap, K.In base → base.Ns mainGlobals mg → FnOk P w K mg base CX k fa fd [x] sp) (hbind : ∀ (s : Shared) (u : Value), BindsTo s fd ⟨[u], []⟩ [(x, u)])
    (hsp : ∀ H : Hp, Only H → SqL K H a (ns.map V.int) → sp [.ref a] H (fun v _ => v = .bl true) fun _ _ _ => False)
    (hCX : ∀ H e s', CX [] H s₁ (fun _ _ _ => False) e s' → False) :
    codeAny (model P w) callerA (.call (.ref fa) ⟨[.ref a], []⟩) (fun r s' => r = .ok (.ret (.bool true)) ∧ OldK s₁.heap s'.heap ∧ s'.os = s₁.os ∧ AllBare s'.gens) s₁ := by
  have rv := vals_ints hi
  have lenV := hi.length
  -- from an abstract heap in which nothing but the script may be tracked
  have core : ∀ H : Hp, Only H → SqL K H a (ns.map V.int) → HOk P w H s₁.heap → (∀ b, H b ≠ none → b = a) → (H a ≠ none → K.lookup a = none) →
      codeAny (model P w) callerA (.call (.ref fa) ⟨[.ref a], []⟩) (fun r s' => r = .ok (.ret (.bool true)) ∧ OldK s₁.heap s'.heap ∧ s'.os = s₁.os ∧ AllBare s'.gens) s₁ := by
    intro H hO hS hok hA hK
    have base_of : ∀ {b : Addr} {o : Obj}, s₁.heap.get? b = some o → H b = none → (hidT s₁.heap H).get? b = some o := fun e n => hidT_get e n
    have noA : ∀ {b : Addr} {o : Obj} {es : Array DictEntry} {ep : Nat}, s₁.heap.get? b = some o → o.data = .dict es ep → H b = none := fun {b o es ep} e d => by
      cases q : H b with
      | none => rfl
      | some u =>
        have e' : b = a := hA b (by rw [q]; simp)
        subst e'
        rw [ha] at e; cases e
        have d' : Data.seq vs.toArray _ = Data.dict es ep := d
        cases d'
    have nsK : ∀ {b : Addr} {m : Str → Option Value}, s₁.heap.Ns b m → (hidT s₁.heap H).Ns b m := fun {b m} ⟨o, es, ep, e, d, r⟩ => ⟨o, es, ep, base_of e (noA e d), d, r⟩
    have hKb : K.In (hidT s₁.heap H) := fun b o e => base_of (KX b o e) (by
      cases q : H b with
      | none => rfl
      | some u =>
        have e' : b = a := hA b (by rw [q]; simp)
        subst e'
        rw [hK (by rw [q]; simp)] at e; cases e)
    have hM : Mod K mg (hidT s₁.heap H) := ⟨hKb, nsK hns, ⟨mb, nsK hb, hbb⟩, let ⟨mc, h1, h2⟩ := hlim; ⟨mc, nsK h1, h2⟩⟩
    have e0 : Env0 P w K mg (hidT s₁.heap H) callerA [] s₁ H := ⟨rfl, hM, fun b o e => of_hidT e, Nat.le_of_eq (hidT_size _ _), trivial, fun b hb => absurd (show b ∈ ([] : List Addr) from hb) (by simp), hok, .of_eq hg⟩
    refine codeAny_mono ((F _ hKb (nsK hns)).run callerA [] s₁ H ⟨[.ref a], []⟩ [.ref a] [.ref a] _ _ hr e0 (hbind s₁ (.ref a)) (.cons rfl .nil) (hsp H hO hS)) fun r s' h => ?_
    cases r with
    | error e => exact (hCX H e s' h).elim
    | ok fl =>
      cases fl with
      | next => exact False.elim h
      | brk => exact False.elim h
      | cont => exact False.elim h
      | ret u =>
        obtain ⟨v, H', os, bare, un, hok', r', q⟩ := h
        have q' : v = .bl true := q
        subst q'
        obtain rfl : u = Value.bool true := r'
        refine ⟨rfl, OldK.of_keep fun b o e => ?_, os, bare⟩
        cases q : H b with
        | none => exact un.keep b o e q (by intro z; exact absurd (show b ∈ ([] : List Addr) from z) (by simp)) (by simp)
        | some u =>
          rcases hO b with z | ⟨ob, xs, z⟩
          · rw [q] at z; cases z
          · have z2 := un.frzs b ob _ z
            obtain ⟨e1, _⟩ := hok b _ z
            obtain ⟨e2, _⟩ := hok' b _ z2
            rw [e] at e1; cases e1
            exact e2
  cases hk : K.lookup a with
  | some o =>
    -- the script is one of the module's own objects
    have e := KX a o hk
    rw [ha] at e
    cases e
    refine core (fun _ => none) (fun _ => .inl rfl) (.inr ⟨_, vs.toArray, _, hk, rfl, rfl, rfl, by rw [List.size_toArray, lenV]; exact hl, by simpa using rv⟩) (fun b u z => by have z' : (none : Option HO) = some u := z; cases z') (fun b z => absurd rfl z) fun z => absurd rfl z
  | none =>
    refine core (fun b => if b = a then some (.frz { cls := .type "list", data := .seq vs.toArray } (.lst (ns.map V.int))) else none) (fun b => ?_) (.inl (.inr ⟨{ cls := .type "list", data := .seq vs.toArray }, if_pos rfl⟩)) (fun b u z => ?_) (fun b z => ?_) fun _ => hk
    · by_cases hb : b = a
      · exact .inr ⟨_, _, if_pos hb⟩
      · exact .inl (if_neg hb)
    · by_cases hb : b = a
      · have z' := (if_pos hb).symm.trans z
        cases z'
        subst hb
        exact ⟨ha, by rw [List.length_map]; exact hl, vs, _, rv, ha⟩
      · have z' := (if_neg hb).symm.trans z
        cases z'
    · by_cases hb : b = a
      · exact hb
      · exact absurd (if_neg hb) z
end L2

namespace L2
open PySem PySem.Spec PyProof.Rows

noncomputable abbrev KOf {K : PySem.W.Frag} {h : Heap} (_ : K.In h) : PySem.W.Frag := K

/-- the goal that k_head leaves (case hc), from the law's promise. F gives the function object fd (K's own) once, then the promise over every base -/
theorem walk_of {l : PySem.W.OpenLaw} {n k : Nat} {q : Program} {loose : List Str} {XP : (Str → Option Value) → Heap → Prop} {YP : World → Heap → Prop} {d : DefRec} {K : Params → PySem.W.Frag} {CX : World → CXT} {sp : World → Sp} {x : Str}
    (hn : l.most = some n) (hn2 : n ≤ sizeLine) (hdf : d.params.defaults = []) (hr : Room k callerA)
    (hY : ∀ (w : World) (h : Heap), YP w h → (K w.params).In h)
    (F : ∀ (w : World) (mg : Str → Option Value) (fa : Addr) (h : Heap), (K w.params).In h → h.Ns mainGlobals mg → mg d.name = some (.ref fa) →
      ∃ fd : FuncData, (∀ (s : Shared) (u : Value), BindsTo s fd ⟨[u], []⟩ [(x, u)]) ∧
        ∀ base : Heap, (K w.params).In base → base.Ns mainGlobals mg → FnOk l.prog w (K w.params) mg base (CX w) k fa fd [x] (sp w))
    (hsp : ∀ (w : World) (H : Hp) (a : Addr) (ns : List Int), ns.length ≤ n → Only H → SqL (K w.params) H a (ns.map V.int) → sp w [.ref a] H (fun v _ => v = .bl true) fun _ _ _ => False)
    (hCX : ∀ (w : World) (H : Hp) (s : Shared) (e : Value) (s' : Shared), CX w [] H s (fun _ _ _ => False) e s' → False) :
    PySem.W.WalkO q loose XP YP l.row.toRowW d [] (fun f vs => PySem.call f vs) := by
  refine Att.attach_call hn hdf fun w s₀ s₁ mg mb fa o pm cd doc a vs ns G Y ho hd hcd hmg hobj hints hlen hg => ?_
  have KX := hY w _ Y
  obtain ⟨fd, hb, hF⟩ := F w mg fa _ KX G.T.g hmg
  exact law_call KX G.T.g G.T.b G.T.builtins G.T.nolimit hg hobj hints (Nat.le_trans hlen hn2) hr hF hb (fun H hO hS => hsp w H a ns hlen hO hS) fun H e s' => hCX w H s₁ e s'
end L2

/- THE LAST THEOREM (shape; LID, My.* are yours):
   My.Adr: a structure of the addresses that your layer names (classes, functions); My.Txt K t: a structure (Prop) of the equations over K;
   My.txt_mk : {K} {implicit addresses ..} (e1 : nsIn K mainGlobals "law" = some (some (.ref f))) (e2 : K.lookup f = some ⟨oc, od, .func (fnOf "law" "law" params body scope dV kV doc pm an cdv ct), sl⟩) (e3 : codeIn K cdv "law" = true) .. : ∃ t, My.Txt K t

set_option maxRecDepth 100000 in
set_option maxHeartbeats 0 in
theorem PySem.Challenge.cw_LID_holds : PySem.Challenge.rw_LID.Holds := by
  w_on; o_law; k_head; (case hw => w_witness2)
  k_fill
  refine L2.walk_of (l := PySem.Challenge.rw_LID) (n := 63) (k := 40) (x := "script") (CX := fun w => ..) (sp := fun _ => My.sp_law) rfl (by decide) rfl ⟨rfl, by decide, by decide⟩ (fun w h Y => PySem.W.kIn_of Y) ?F ?S ?C
  case F =>
    intro w mg fa h KX G hmg
    have T : ∃ t, My.Txt (L2.KOf KX) t := by
      dsimp only [L2.KOf]                          -- K must stand as «<heap const> w.params» for k_is
      refine' My.txt_mk ?e1 ?e2 ?e3 ..
      (case e1 => PySem.W.k_is)                    -- in the order: a name -> its address -> its object -> its parts
      (case e2 => PySem.W.k_is)
      ..
    obtain ⟨t, T⟩ := T
    have e0 := hmg.symm.trans (PySem.W.mg_of KX G T.law)
    cases e0                                       -- fa is the law's own address
    exact ⟨_, fun s u => .of_eq rfl, fun base kb nb => My.law_fn T kb nb⟩     -- if «.of_eq rfl» comes too early: refine' ⟨_, ?b, fun base kb nb => My.law_fn T kb nb⟩; exact fun s u => .of_eq rfl
  case S => exact fun w H a ns hl hO hS => ..
  case C => exact ..
(the tactic k_is has no namespace: write k_is) -/

/-! SHORT WORDS over the layer: a def of the text, its body, what a loop and a test want. -/
namespace L2
open PySem PySem.Spec PyProof.Rows

/-! ### the text by places -/
/-- the j-th statement of a class's body -/
noncomputable def inClass (s : Stmt) (j : Nat) : Stmt := match s with
  | .ClassDef _ _ _ body _ _ _ _ _ _ _ => body.getD j (.Pass ⟨0, 0, 0, 0⟩)
  | _ => .Pass ⟨0, 0, 0, 0⟩
noncomputable def defArgs (s : Stmt) : Arguments := match s with
  | .FunctionDef _ a _ _ _ _ _ _ _ _ => a
  | _ => { posonlyargs := [], args := [], vararg := none, kwonlyargs := [], kw_defaults := [], kwarg := none, defaults := [] }
noncomputable def defBody (s : Stmt) : List Stmt := match s with
  | .FunctionDef _ _ b _ _ _ _ _ _ _ => b
  | _ => []
noncomputable def defScope (s : Stmt) : Scope := match s with
  | .FunctionDef _ _ _ _ _ _ sc _ _ _ => sc
  | _ => { kind := .function, names := [], isGenerator := false, isCoroutine := false }

/-! ### no exception leaves a def -/
noncomputable abbrev E0 : XK := fun _ _ _ => False

/-! ### a def (or method) of the text as it stands behind the top -/
structure Fun (K : PySem.W.Frag) (x qual : Str) (st : Stmt) (f : Addr) (fd : FuncData) : Prop where
  ex : ∃ (oc : Value) (od : Option Addr) (kV doc pm : Value) (an : Option Addr) (cdv ct : Value) (osl : Array (Option Value)),
    fd = PySem.W.fnOf x qual (defArgs st) (defBody st) (defScope st) .none kV doc pm an cdv ct ∧ K.lookup f = some ⟨oc, od, .func fd, osl⟩ ∧ PySem.W.codeIn K cdv qual = true
  kp : PySem.W.keepIn K (.ref f) = true
section
variable {P : Program} {w : World} {K : PySem.W.Frag} {mg : Str → Option Value} {base : Heap}
/-- how its arguments bind (no defaults): h is «fun _ _ _ _ _ _ us hl => match us, hl with | [_, _], _ => rfl», one _ a parameter -/
theorem Fun.binds {x qual : Str} {st : Stmt} {f : Addr} {fd : FuncData} {ps : List Str} (F : Fun K x qual st f fd)
    (h : ∀ (kV doc pm : Value) (an : Option Addr) (cdv ct : Value) (us : List Value), us.length = ps.length → bindArgs (PySem.W.fnOf x qual (defArgs st) (defBody st) (defScope st) .none kV doc pm an cdv ct) ⟨us, []⟩ = pure (ps.zip us)) : Binds K fd ps [] := by
  obtain ⟨oc, od, kV, doc, pm, an, cdv, ct, osl, rfl, lk, hcd⟩ := F.ex
  exact .all (h kV doc pm an cdv ct)
theorem fun_mk {x qual : Str} {st : Stmt} {f : Addr} {oc : Value} {od an : Option Addr} {osl : Array (Option Value)} {kV doc pm cdv ct : Value} (l : K.lookup f = some ⟨oc, od, .func (PySem.W.fnOf x qual (defArgs st) (defBody st) (defScope st) .none kV doc pm an cdv ct), osl⟩)
    (c : PySem.W.codeIn K cdv qual = true) (k : PySem.W.keepIn K (.ref f) = true) : Fun K x qual st f (PySem.W.fnOf x qual (defArgs st) (defBody st) (defScope st) .none kV doc pm an cdv ct) := ⟨⟨oc, od, kV, doc, pm, an, cdv, ct, osl, rfl, l, c⟩, k⟩
end
theorem hu_of {A : Around} {k : Nat} (hr : Room k A) : A.units + 1 < cLine := Nat.lt_of_le_of_lt (Nat.add_le_add_left (by decide : 1 ≤ 64) _) hr.units

/-! ### expressions in short: the name that stands in the i-th slot -/
section
variable {X : Cx}
theorem pv (i : Nat) {x : Str} {pos : Pos} (hN : X.N[i]? = some x := by rfl) (hv : Vis X.env.scope x := by first | exact Or.inl rfl | exact Or.inr (Or.inl rfl) | exact Or.inr (Or.inr rfl)) (hd : (x == ("__debug__" : Str)) = false := by decide)
    (hcd : (x == ("__classdict__" : Str)) = false := by decide) : PE X (.Name x pos) (tVar i) := pe_var hN hv hd hcd
end

/-! ### tests -/
theorem iteF {A B : Prop} (h : B) : if false = true then A else B := by
  rw [if_neg Bool.false_ne_true]
  exact h
theorem iteT {A B : Prop} (h : A) : if true = true then A else B := by
  rw [if_pos rfl]
  exact h
theorem ite2 {c A B : Prop} [Decidable c] (h1 : c → A) (h2 : ¬ c → B) : if c then A else B := by
  by_cases h : c
  · rw [if_pos h]
    exact h1 h
  · rw [if_neg h]
    exact h2 h

/-! ### heaps -/
/-- all that was tracked is as it was -/
noncomputable def Same (H H' : Hp) : Prop := ∀ b o, H b = some o → H' b = some o
theorem Same.refl (H : Hp) : Same H H := fun _ _ h => h
theorem Same.trans {H H1 H2 : Hp} (a : Same H H1) (b : Same H1 H2) : Same H H2 := fun c o h => b c o (a c o h)
theorem Same.free {H H' : Hp} (e : Same H H') {l : Addr} (h : H' l = Option.none) : H l = Option.none := by
  cases q : H l with
  | none => rfl
  | some o =>
    rw [e l o q] at h
    cases h
theorem Same.seq {K : PySem.W.Frag} {H H' : Hp} {a : Addr} {xs : List V} (e : Same H H') (h : SqL K H a xs) : SqL K H' a xs := by
  rcases h with (h | ⟨o, h⟩) | h
  · exact .inl (.inl (e _ _ h))
  · exact .inl (.inr ⟨o, e _ _ h⟩)
  · exact .inr h

/-! ### a dict's pairs: keys that differ -/
section
variable {κ : Type} [DecidableEq κ]
end
end L2

/-! EXCEPTIONS over the hand layer: own error classes raised in a def, handed on through callers, caught by a try. -/
namespace L2
open PySem PySem.Spec PyProof.Rows

/-- the exception at e is on its way: T its newest entry, which marks no frame -/
noncomputable def Fly (h : Heap) (e T : Addr) (cls : Value) (dct : Option Addr) : Prop :=
  ∃ oe vs oT ts, h.get? e = some oe ∧ oe.cls = cls ∧ oe.dict = dct ∧ oe.data = .fields vs ∧ vs[1]? = some (.ref T) ∧ T ≠ e ∧ h.get? T = some oT ∧ oT.data = .fields ts ∧ ts[3]? = some .none
/-- .. marked by fl -/
noncomputable def FlyAt (h : Heap) (e T : Addr) (cls : Value) (dct : Option Addr) (fl : Value) : Prop :=
  ∃ oe vs oT ts, h.get? e = some oe ∧ oe.cls = cls ∧ oe.dict = dct ∧ oe.data = .fields vs ∧ vs[1]? = some (.ref T) ∧ T ≠ e ∧ h.get? T = some oT ∧ oT.data = .fields ts ∧ ts[3]? = some fl

/-- what an entry changes: e itself, the frames' slots, one new record at T -/
structure Noted (fs : List Addr) (e T : Addr) (h h' : Heap) : Prop where
  keep : ∀ b o, b ≠ e → b ∉ fs → h.get? b = some o → h'.get? b = some o
  slot : ∀ b o, b ≠ e → h.get? b = some o → ∃ sl, h'.get? b = some { o with slots := sl }
  new : h.objs.size ≤ T

section
variable {M : Model} {A : Around} {E : Value → Shared → Prop} {s : Shared}

theorem entry_x {base : Heap} {env : Env} {outer : List Env} {L e : Addr} {oe : Obj} {vs : Array Value} {head : Value} {hadNext : Bool} {Q : Unit → Shared → Prop}
    (hfr : A.frames = some (env :: outer)) (hl : s.heap.FunFrames base (env :: outer)) (hf : env.frame = some L) (he : s.heap.get? e = some oe) (hd : oe.data = .fields vs) (hsz : 1 < vs.size)
    (h : ∀ h' T, Noted (frs (env :: outer)) e T s.heap h' → FlyAt h' e T oe.cls oe.dict (rawInt L) → Q () { s with heap := h' }) :
    wpAny M A (do
      let a ← frameOf env
      let pl ← entryPlaceOf L hadNext
      let b ← EntryCells.newEntry head a .none (rawInt L) .none pl
      setField (.ref e) 1 b) Q E s := by
  have nf : e ∉ (env :: outer).filterMap (·.frame) := fun hm => by
    obtain ⟨_, o, ho, hnf⟩ := hl.mem hm
    rw [he] at ho
    cases ho
    exact hnf vs hd
  refine wpAny_bind (wpAny_frameOf_fun hfr hl hf fun h1 so => wpAny_bind (wpAny_entryPlaceOf fun pl hpl => ?_))
  unfold EntryCells.newEntry newFields
  refine wpAny_bind (wpAny_newObj_type ?_ (hpl.sizeOk5 _ _ _ _ _))
  have e1 : h1.get? e = some oe := (so.2.1 e nf).trans he
  generalize hn : ([head, Value.ref L, Value.none, rawInt L, Value.none] ++ (if pl.isEmpty = true then List.replicate 6 Value.none else pl)) = cells
  have c3 : cells.toArray[3]? = some (rawInt L) := by subst hn; simp
  have e2 := Heap.get?_push_of_some (h := h1) { cls := .type "traceback", dict := none, data := .fields cells.toArray } e1
  refine wpAny_setField e2 hd hsz ?_
  have ne : h1.objs.size ≠ e := Nat.ne_of_gt (Heap.lt_size e1)
  have d3 := Obj.data_mapFields hd (·.setIfInBounds 1 (Value.ref h1.objs.size))
  refine h _ h1.objs.size ⟨fun b o hbe hbf hb => ?_, fun b o hbe hb => ?_, Nat.le_of_eq so.1.symm⟩ ?_
  · rw [Heap.get?_update_other _ _ (Ne.symm hbe)]
    exact Heap.get?_push_of_some _ ((so.2.1 b hbf).trans hb)
  · obtain ⟨sl, hs⟩ := so.2.2 b o hb
    refine ⟨sl, ?_⟩
    rw [Heap.get?_update_other _ _ (Ne.symm hbe)]
    exact Heap.get?_push_of_some _ hs
  · refine ⟨_, _, { cls := .type "traceback", dict := none, data := .fields cells.toArray }, cells.toArray, Heap.get?_update_self _ e2 (Obj.isFreed_of_fields d3), Obj.cls_mapFields _ _, ?_, d3, by simp [hsz], ne, ?_, rfl, c3⟩
    · obtain ⟨c, d, dt, sl⟩ := oe
      cases dt <;> rfl
    · rw [Heap.get?_update_other _ _ (Ne.symm ne)]
      exact Heap.get?_push_size h1 rfl

/-- the newest entry's mark is taken back -/
theorem flight_x {e T : Addr} {cls : Value} {dct : Option Addr} {fl : Value} {Q : Unit → Shared → Prop} (ht : FlyAt s.heap e T cls dct fl)
    (h : ∀ h', (∀ b o, b ≠ T → s.heap.get? b = some o → h'.get? b = some o) → Fly h' e T cls dct → Q () { s with heap := h' }) : wpAny M A (setFlight (.ref e) none) Q E s := by
  obtain ⟨oe, vs, oT, ts, he, hc, hdx, hd, h1, ne, hT, hdT, h3⟩ := ht
  have hsz : 3 < ts.size := (Array.getElem?_eq_some_iff.mp h3).1
  refine wpAny_setFlight_none he hd h1 hT hdT hsz (h _ (fun b o hb q => ?_) ?_)
  · rw [Heap.get?_update_other _ _ (Ne.symm hb)]
    exact q
  · refine ⟨oe, vs, _, _, ?_, hc, hdx, hd, h1, ne, Heap.get?_update_self _ hT (Obj.isFreed_of_fields (Obj.data_mapFields hdT _)), Obj.data_mapFields hdT _, by simp [hsz]⟩
    rw [Heap.get?_update_other _ _ ne]
    exact he

/-- the frame is noted: an exception that was just made -/
theorem note_first {base : Heap} {env : Env} {outer : List Env} {L e : Addr} {oe : Obj} {vs : Array Value} {Q : Unit → Shared → Prop}
    (hfr : A.frames = some (env :: outer)) (hl : s.heap.FunFrames base (env :: outer)) (hf : env.frame = some L) (he : s.heap.get? e = some oe) (hd : oe.data = .fields vs) (h1 : vs[1]? = some .none)
    (h : ∀ h' T, Noted (frs (env :: outer)) e T s.heap h' → FlyAt h' e T oe.cls oe.dict (rawInt L) → Q () { s with heap := h' }) : wpAny M A (noteFrame (.ref e) env) Q E s := by
  unfold noteFrame
  simp only [hf]
  refine wpAny_bind (wpAny_field he hd h1 ?_)
  rw [if_neg (by decide)]
  exact entry_x hfr hl hf he hd (Array.getElem?_eq_some_iff.mp h1).1 h
/-- .. one that comes from a callee: its last entry at T0 turns too -/
theorem note_next {base : Heap} {env : Env} {outer : List Env} {L e T0 : Addr} {cls : Value} {dct : Option Addr} {Q : Unit → Shared → Prop}
    (hfr : A.frames = some (env :: outer)) (hl : s.heap.FunFrames base (env :: outer)) (hf : env.frame = some L) (ht : Fly s.heap e T0 cls dct)
    (h : ∀ h' T, (∀ b o, b ≠ e → b ≠ T0 → b ∉ frs (env :: outer) → s.heap.get? b = some o → h'.get? b = some o) → (∀ b o, b ≠ e → b ≠ T0 → s.heap.get? b = some o → ∃ sl, h'.get? b = some { o with slots := sl }) → s.heap.objs.size ≤ T →
      FlyAt h' e T cls dct (rawInt L) → (∀ b o, s.heap.get? b = some o → ∃ o', h'.get? b = some o') → Q () { s with heap := h' }) : wpAny M A (noteFrame (.ref e) env) Q E s := by
  obtain ⟨oe, vs, oT, ts, he, rfl, rfl, hd, h1, ne, hT, hdT, h3⟩ := ht
  unfold noteFrame
  simp only [hf]
  refine wpAny_bind (wpAny_field he hd h1 ?_)
  rw [if_pos (show (Value.ref T0 != Value.none) = true from by simp)]
  refine wpAny_bind (wpAny_field hT hdT h3 ?_)
  rw [if_neg (show ¬ ((Value.none == rawInt L) = true) from by simp [rawInt])]
  refine wpAny_bind (wpAny_setField hT hdT (Array.getElem?_eq_some_iff.mp h3).1 ?_)
  have oth : ∀ b, b ≠ T0 → (s.heap.update T0 (Obj.mapFields (·.setIfInBounds 3 Value.none))).get? b = s.heap.get? b := fun b hb => Heap.get?_update_other _ _ (Ne.symm hb)
  have selfT := Heap.get?_update_self (Obj.mapFields (·.setIfInBounds 3 Value.none)) hT (Obj.isFreed_of_fields (Obj.data_mapFields hdT _))
  have nrec : ∀ b o, s.heap.get? b = some o → (∀ vs, o.data ≠ .fields vs) → b ≠ T0 := fun b o hb hnf q => by
    rw [q, hT] at hb
    cases hb
    exact hnf ts hdT
  have hl' : (s.heap.update T0 (Obj.mapFields (·.setIfInBounds 3 Value.none))).FunFrames base (env :: outer) := hl.of_keeps fun b o hb hnf => ⟨o, (oth b (nrec b o hb hnf)).trans hb, rfl⟩
  refine entry_x (s := { s with heap := s.heap.update T0 (Obj.mapFields (·.setIfInBounds 3 Value.none)) }) hfr hl' hf ((oth e (Ne.symm ne)).trans he) hd (Array.getElem?_eq_some_iff.mp h1).1 fun h' T N F => ?_
  refine h h' T (fun b o b1 b2 b3 q => N.keep b o b1 b3 ((oth b b2).trans q)) (fun b o b1 b2 q => N.slot b o b1 ((oth b b2).trans q)) (Nat.le_trans (Nat.le_of_eq (Heap.size_after_update _ _ _).symm) N.new) F fun b o q => ?_
  by_cases b1 : b = e
  · subst b1
    obtain ⟨oe', _, _, _, q', _⟩ := F
    exact ⟨oe', q'⟩
  · by_cases b2 : b = T0
    · subst b2
      obtain ⟨sl, q'⟩ := N.slot b _ b1 selfT
      exact ⟨_, q'⟩
    · obtain ⟨sl, q'⟩ := N.slot b o b1 ((oth b b2).trans q)
      exact ⟨_, q'⟩
end
end L2

namespace L2
open PySem PySem.Spec PyProof.Rows

/-- an exception lies behind a call: new, untracked, of the class cls, with the dict dct -/
noncomputable def CX1 (P : Program) (w : World) : CXT := fun outer H s E ev s' =>
  ∃ e T cls dct H', ev = .ref e ∧ s'.os = s.os ∧ AllBare s'.gens ∧ Un (frs outer) [] H H' s.heap s'.heap ∧ HOk P w H' s'.heap ∧ Fly s'.heap e T cls dct ∧
    s.heap.get? e = none ∧ s.heap.get? T = none ∧ H' e = none ∧ H' T = none ∧ E cls dct H'

section
variable {X : Cx} {pins : List (Addr × Obj)} {σ : St} {H : Hp} {s : Shared} {h' : Heap}
/-- what an exception's entries change leaves the rest as a callee must -/
theorem left_ok (I : Inv X pins σ H s) (hex : X.ex = []) (bad : List Addr) (hb : ∀ b ∈ bad, X.s₀.heap.get? b = none ∧ H b = none)
    (k1 : ∀ b o, b ∉ bad → b ∉ frs X.stack → s.heap.get? b = some o → h'.get? b = some o) (k2 : ∀ b o, b ∉ bad → s.heap.get? b = some o → ∃ sl, h'.get? b = some { o with slots := sl })
    (k3 : ∀ b o, s.heap.get? b = some o → ∃ o', h'.get? b = some o') : Un X.fs [] X.H₀ H X.s₀.heap h' ∧ HOk X.prog X.w H h' := by
  have B := I.base
  rw [hex] at B
  have nb : ∀ b o, X.s₀.heap.get? b = some o → b ∉ bad := fun b o q z => by
    rw [(hb b z).1] at q
    cases q
  have nL : ∀ b o, X.s₀.heap.get? b = some o → b ≠ X.env.locals := fun b o q => Nat.ne_of_lt (Nat.lt_of_lt_of_le (Heap.lt_size q) I.ok.above)
  have e0 : ∀ b : Addr, b ∉ ([] : List Addr) := fun b => by simp
  refine ⟨⟨fun b o q n hf _ => ?_, fun b o q n hf _ => ?_, B.free, fun b o q _ => ?_, B.tups, B.frzs, B.tbls⟩, fun a u q => ?_⟩
  · refine k1 b o (nb b o q) (fun z => ?_) (B.keep b o q n hf (e0 b))
    rcases List.mem_cons.mp (I.stkSub b z) with z | z
    · exact nL b o q z
    · exact hf z
  · obtain ⟨sl, q1⟩ := B.slot b o q n hf (e0 b)
    obtain ⟨sl', q2⟩ := k2 b _ (nb b o q) q1
    exact ⟨sl', q2⟩
  · obtain ⟨o1, q1⟩ := B.there b o q (e0 b)
    exact k3 b o1 q1
  · have tr : ∀ b v, H b = some v → b ∉ bad ∧ b ∉ frs X.stack := fun b v z => ⟨(fun y => absurd ((hb b y).2.symm.trans z) (by simp)), fun y => absurd ((I.stkFree b y).symm.trans z) (by simp)⟩
    refine (I.hok a u q).stay (fun b v hbv z => ?_) (fun _ z => z) fun _ _ z => z
    rcases hbv with rfl | hbv
    · exact k1 b v (tr b _ q).1 (tr b _ q).2 z
    · exact k1 b v (tr b _ hbv).1 (tr b _ hbv).2 z
end

section
variable {P : Program} {w : World} {K : PySem.W.Frag} {mg : Str → Option Value} {base : Heap} {N : List Str} {qual : Str} {scope : Scope} {f : Addr} {cd : Value} {A : Around} {outer : List Env} {s₀ : Shared} {H₀ : Hp} {E : XK}
noncomputable abbrev cx1 (P : Program) (w : World) (K : PySem.W.Frag) (mg : Str → Option Value) (base : Heap) (N : List Str) (qual : Str) (scope : Scope) (f : Addr) (cd : Value) (A : Around) (outer : List Env) (s₀ : Shared) (H₀ : Hp) (E : XK) : Cx :=
  cxOf (CX1 P w) P w K mg base N qual scope f cd A outer s₀ H₀ E

/-- an exception that was made in the body leaves it -/
theorem xe_made {pins : List (Addr × Obj)} {σ : St} {H : Hp} {s : Shared} {e : Addr} {oe : Obj} {vs : Array Value} (I : Inv (cx1 P w K mg base N qual scope f cd A outer s₀ H₀ E) pins σ H s)
    (he : s.heap.get? e = some oe) (hd : oe.data = .fields vs) (h1 : vs[1]? = some .none) (hn : s₀.heap.get? e = none) (hH : H e = none) (q : E oe.cls oe.dict H) : (cx1 P w K mg base N qual scope f cd A outer s₀ H₀ E).xe (.ref e) s := by
  show wpAny _ _ (leaving _ _) _ _ _
  unfold leaving
  refine wpAny_bind (note_first (base := base) (L := s₀.heap.objs.size) I.ok.frames I.stack rfl he hd h1 fun h1' T Nt F => ?_)
  refine flight_x (s := { s with heap := h1' }) F fun h2 k F2 => ?_
  have bT : s.heap.objs.size ≤ T := Nt.new
  have tn : ∀ b o, s.heap.get? b = some o → b ≠ T := fun b o z => Nat.ne_of_lt (Nat.lt_of_lt_of_le (Heap.lt_size z) bT)
  have s0T : s₀.heap.objs.size ≤ T := Nat.le_trans I.sz bT
  obtain ⟨u, hk⟩ := left_ok (h' := h2) I rfl [e] (fun b hb => by
      have z : b = e := by simpa using hb
      subst z
      exact ⟨hn, hH⟩)
    (fun b o b1 b2 z => k b o (tn b o z) (Nt.keep b o (by simpa using b1) b2 z))
    (fun b o b1 z => by
      obtain ⟨sl, z1⟩ := Nt.slot b o (by simpa using b1) z
      exact ⟨sl, k b _ (tn b o z) z1⟩)
    (fun b o z => by
      by_cases b1 : b = e
      · subst b1
        obtain ⟨oe', _, _, _, z1, _⟩ := F2
        exact ⟨oe', z1⟩
      · obtain ⟨sl, z1⟩ := Nt.slot b o b1 z
        exact ⟨_, k b _ (tn b o z) z1⟩)
  exact ⟨e, T, _, _, H, rfl, I.os, I.bare, u, hk, F2, hn, Heap.get?_none_of_le s0T, hH, I.hok.fresh bT, q⟩

/-- an exception of a callee leaves the body -/
theorem pass1 : Passes (CX1 P w) (cx1 P w K mg base N qual scope f cd A outer s₀ H₀ E) E := by
  intro pins σ H s ev s' I hc
  obtain ⟨e, T0, cls, dct, H', rfl, os, bare, un, hok, F0, hne, hnT, hHe, hHT, q⟩ := hc
  have I' : Inv (cx1 P w K mg base N qual scope f cd A outer s₀ H₀ E) pins σ H' s' := I.call' (ch := []) os un hok bare fun b z => absurd z (by simp)
  have old : ∀ b, s.heap.get? b = none → s₀.heap.get? b = none := fun b z => by
    cases q1 : s₀.heap.get? b with
    | none => rfl
    | some o =>
      obtain ⟨o', q2⟩ := I.base.there b o q1 (show b ∉ ([] : List Addr) by simp)
      rw [z] at q2
      cases q2
  show wpAny _ _ (leaving _ _) _ _ _
  unfold leaving
  refine wpAny_bind (note_next (base := base) (L := s₀.heap.objs.size) I'.ok.frames I'.stack rfl F0 fun h1' T k1 k2 bT F k3 => ?_)
  refine flight_x (s := { s' with heap := h1' }) F fun h2 k F2 => ?_
  have tn : ∀ b o, s'.heap.get? b = some o → b ≠ T := fun b o z => Nat.ne_of_lt (Nat.lt_of_lt_of_le (Heap.lt_size z) bT)
  have s0T : s₀.heap.objs.size ≤ T := Nat.le_trans I'.sz bT
  obtain ⟨u, hk⟩ := left_ok (h' := h2) I' rfl [e, T0] (fun b hb => by
      rcases List.mem_cons.mp hb with z | hb
      · subst z
        exact ⟨old b hne, hHe⟩
      · have z : b = T0 := by simpa using hb
        subst z
        exact ⟨old b hnT, hHT⟩)
    (fun b o b1 b2 z => k b o (tn b o z) (k1 b o (fun y => b1 (by simp [y])) (fun y => b1 (by simp [y])) b2 z))
    (fun b o b1 z => by
      obtain ⟨sl, z1⟩ := k2 b o (fun y => b1 (by simp [y])) (fun y => b1 (by simp [y])) z
      exact ⟨sl, k b _ (tn b o z) z1⟩)
    (fun b o z => by
      obtain ⟨o1, z1⟩ := k3 b o z
      exact ⟨o1, k b _ (tn b o z) z1⟩)
  exact ⟨e, T, cls, dct, H', rfl, I'.os, bare, u, hk, F2, old e hne, Heap.get?_none_of_le s0T, hHe, hok.fresh bT, q⟩
/-- a loop hands on what leaves the body -/
theorem own1 : PassesOwn (model P w) (cx1 P w K mg base N qual scope f cd A outer s₀ H₀ E).A (cx1 P w K mg base N qual scope f cd A outer s₀ H₀ E).env (cx1 P w K mg base N qual scope f cd A outer s₀ H₀ E).xe := PassesOwn.leaving
end
end L2

namespace L2
open PySem PySem.Spec PyProof.Rows

theorem ObjOk.there {P : Program} {w : World} {H : Hp} {h : Heap} {a : Addr} {o : HO} (x : ObjOk P w H h a o) : ∃ ob, h.get? a = some ob := by
  cases o with
  | lst xs => obtain ⟨_, _, _, _, e⟩ := x; exact ⟨_, e⟩
  | tup xs => obtain ⟨_, _, _, o, e, _⟩ := x; exact ⟨_, e⟩
  | dK kvs => obtain ⟨_, _, _, _, o, _, _, e, _⟩ := x; exact ⟨_, e⟩
  | dT kvs => obtain ⟨_, _, _, _, o, _, _, e, _⟩ := x; exact ⟨_, e⟩
  | set S n => obtain ⟨o, _, _, _, e, _⟩ := x; exact ⟨_, e⟩
  | ins C dx fs => obtain ⟨_, _, _, e, _⟩ := x; exact ⟨_, e⟩
  | own y => exact x
  | xd fs => obtain ⟨_, ⟨_, _, _, e, _⟩, _⟩ := x; exact ⟨_, e⟩
  | rng lo hi => obtain ⟨_, _, _, e⟩ := x; exact ⟨_, e⟩
  | frz ob u => obtain ⟨e, _⟩ := x; exact ⟨_, e⟩
  | tbl ps => exact ⟨_, (show h.get? a = some _ from x)⟩
  | met f y => exact ⟨_, (show h.get? a = some _ from x)⟩
  | ext φ => obtain ⟨_, e, _⟩ := x; exact e
theorem HOk.new {P : Program} {w : World} {H : Hp} {h : Heap} {a : Addr} (x : HOk P w H h) (e : h.get? a = none) : H a = none := by
  cases q : H a with
  | none => rfl
  | some u =>
    obtain ⟨o, z⟩ := (x a u q).there
    rw [e] at z
    cases z


section
variable {P : Program} {w : World} {K : PySem.W.Frag} {mg : Str → Option Value} {base : Heap} {N : List Str} {qual : Str} {scope : Scope} {f : Addr} {cd : Value} {A : Around} {outer : List Env} {s₀ : Shared} {H₀ : Hp} {E : XK}
end

section
variable {X : Cx} {x : Str} {C : Addr} {B newId initId : String} {bm : List Value} {np cpos pos : Pos} {E : XK} {e₀ : Expr} {rest : List Expr} {t : TA}
end
end L2

namespace L2
open PySem PySem.Spec PyProof.Rows
section
variable {X : Cx} {pins : List (Addr × Obj)} {σ : St} {H H' : Hp} {s : Shared} {h' : Heap}

/-- as Inv.step, where the records that turn are such as the entry's heap had nothing at -/
theorem Inv.stepN {g' : Array GenState} {t' : Nat} {d' : Drawn} {ch : List Addr} (I : Inv X pins σ H s)
    (hch : ∀ b ∈ ch, (b ∈ X.ex ∨ X.s₀.heap.get? b = none) ∧ b ≠ X.env.locals ∧ (∀ x c, X.env.cells.lookup x = some c → c ≠ b) ∧ ∀ p ∈ X.pn ++ pins, p.1 ≠ b)
    (keep : ∀ b o, b ≠ X.env.locals → b ∉ X.fs → b ∉ ch → s.heap.get? b = some o → H b = none → h'.get? b = some o)
    (slot : ∀ b o, b ≠ X.env.locals → b ∈ X.fs → b ∉ ch → s.heap.get? b = some o → H b = none → ∃ sl, h'.get? b = some { o with slots := sl }) (free : ∀ b o, b ∉ ch → s.heap.get? b = some o → H b = none → H' b = none)
    (there : ∀ b o, b ∉ ch → s.heap.get? b = some o → ∃ o', h'.get? b = some o')
    (tups : ∀ b xs, H b = some (.tup xs) → H' b = some (.tup xs)) (frzs : ∀ b o u, H b = some (.frz o u) → H' b = some (.frz o u)) (tbls : ∀ b ps, H b = some (.tbl ps) → ∃ more, H' b = some (.tbl (ps ++ more)))
    (ns : ∀ m, s.heap.Ns X.env.locals m → h'.Ns X.env.locals m) (hok : HOk X.prog X.w H' h') (hg : AllBare g') :
    Inv X pins σ H' { s with heap := h', gens := g', drawn := d', toks := t' } := by
  have neL : ∀ b o, X.s₀.heap.get? b = some o → b ≠ X.env.locals := fun b o e => Nat.ne_of_lt (Nat.lt_of_lt_of_le (Heap.lt_size e) I.ok.above)
  have neC : ∀ b o, X.s₀.heap.get? b = some o → b ∉ X.ex → b ∉ ch := fun b o e hx hb => by
    rcases (hch b hb).1 with z | z
    · exact hx z
    · rw [z] at e
      cases e
  have cellK : ∀ x c, X.env.cells.lookup x = some c → ∀ v, s.heap.IsCell c v → h'.IsCell c v := fun x c e v ⟨o, ho, hd⟩ => by
    have nch : c ∉ ch := fun z => (hch c z).2.2.1 x c e rfl
    by_cases hc : c ∈ X.fs
    · obtain ⟨sl, q⟩ := slot c o (I.cne x c e) hc nch ho (I.freeC x c e)
      exact ⟨_, q, hd⟩
    · exact ⟨o, keep c o (I.cne x c e) hc nch ho (I.freeC x c e), hd⟩
  refine ⟨I.ok, I.os, hg, ⟨fun b o e n hb hx => ?_, fun b o e n hb hx => ?_, fun b o e n hx => ?_, fun b o e hx => ?_, fun b xs e => tups b xs (I.base.tups b xs e), fun b o xs e => frzs b o xs (I.base.frzs b o xs e), fun b ps e => ?_⟩, ?_, fun x c e => ?_, ?_, fun x c e => ?_, fun p hp => ?_, hok, I.len⟩
  · exact keep b o (neL b o e) hb (neC b o e hx) (I.base.keep b o e n hb hx) (I.base.free b o e n hx)
  · obtain ⟨sl, e1⟩ := I.base.slot b o e n hb hx
    obtain ⟨sl', e2⟩ := slot b _ (neL b o e) hb (neC b o e hx) e1 (I.base.free b o e n hx)
    exact ⟨sl', e2⟩
  · obtain ⟨o', e1⟩ := I.base.there b o e hx
    exact free b o' (neC b o e hx) e1 (I.base.free b o e n hx)
  · obtain ⟨o', e1⟩ := I.base.there b o e hx
    exact there b o' (neC b o e hx) e1
  · obtain ⟨m1, e1⟩ := I.base.tbls b ps e
    obtain ⟨m2, e2⟩ := tbls b _ e1
    exact ⟨m1 ++ m2, by rw [e2, Array.append_assoc]⟩
  · obtain ⟨m, hn, hl⟩ := I.loc
    refine ⟨m, ns m hn, fun i x v e1 e2 e3 => ?_⟩
    obtain ⟨u, r, l⟩ := hl i x v e1 e2 e3
    refine ⟨u, r, ?_⟩
    rcases l with l | ⟨k, c, e, z⟩
    · exact .inl l
    · exact .inr ⟨k, c, e, cellK x c e _ z⟩
  · obtain ⟨v, z⟩ := I.cell x c e
    exact ⟨v, cellK x c e v z⟩
  · obtain ⟨m, ⟨o, _, _, ho, _⟩, _⟩ := I.loc
    exact free _ o (fun z => (hch _ z).2.1 rfl) ho I.free
  · obtain ⟨v, o, ho, hd⟩ := I.cell x c e
    exact free c o (fun z => (hch c z).2.2.1 x c e rfl) ho (I.freeC x c e)
  · obtain ⟨e, n, ne, nf, d⟩ := I.pin p hp
    have nch : p.1 ∉ ch := fun z => (hch p.1 z).2.2.2 p hp rfl
    exact ⟨keep p.1 p.2 ne nf nch e n, free p.1 p.2 nch e n, ne, nf, d⟩

/-- a thing that the state knows nothing of is apart from the frame, the cells, the pins -/
structure Apart (X : Cx) (pins : List (Addr × Obj)) (e : Addr) : Prop where
  old : X.s₀.heap.get? e = none
  loc : e ≠ X.env.locals
  cel : ∀ x c, X.env.cells.lookup x = some c → c ≠ e
  pin : ∀ p ∈ X.pn ++ pins, p.1 ≠ e
theorem Inv.apart (I : Inv X pins σ H s) (hex : X.ex = []) {e : Addr} (hn : s.heap.get? e = none) : Apart X pins e := by
  have ne : ∀ b o, s.heap.get? b = some o → b ≠ e := fun b o q z => by
    rw [z, hn] at q
    cases q
  refine ⟨?_, ?_, fun x c q => ?_, fun p hp => ne _ _ (I.pin p hp).1⟩
  · cases q1 : X.s₀.heap.get? e with
    | none => rfl
    | some o =>
      obtain ⟨o', q2⟩ := I.base.there e o q1 (by rw [hex]; simp)
      rw [hn] at q2
      cases q2
  · obtain ⟨m, ⟨o, _, _, ho, _⟩, _⟩ := I.loc
    exact Ne.symm (ne _ _ ho)
  · obtain ⟨v, o, ho, _⟩ := I.cell x c q
    exact ne _ _ ho

/-- a thing is tracked by what is true of it -/
theorem Inv.track {e : Addr} {φ : Heap → Prop} (I : Inv X pins σ H s) (a : Apart X pins e) (hH : H e = none) (ht : ∃ o, s.heap.get? e = some o) (p : φ s.heap) (st : ∀ h1 h2 : Heap, φ h1 → (∀ o, h1.get? e = some o → h2.get? e = some o) → φ h2) :
    Inv X pins σ (upd H e (.ext φ)) s := by
  have nn : ∀ b u, H b = some u → b ≠ e := fun b u q z => by
    rw [z, hH] at q
    cases q
  refine ⟨I.ok, I.os, I.bare, ⟨I.base.keep, I.base.slot, fun b o q n hx => ?_, I.base.there, fun b xs q => ?_, fun b o u q => ?_, fun b ps q => ?_⟩, I.loc, I.cell, ?_, fun x c q => ?_, fun pp hp => ?_, fun b u q => ?_, I.len⟩
  · rw [upd_ne (fun z => by rw [z, a.old] at q; cases q)]
    exact I.base.free b o q n hx
  · rw [upd_ne (nn b _ (I.base.tups b xs q))]
    exact I.base.tups b xs q
  · rw [upd_ne (nn b _ (I.base.frzs b o u q))]
    exact I.base.frzs b o u q
  · obtain ⟨m, z⟩ := I.base.tbls b ps q
    exact ⟨m, by rw [upd_ne (nn b _ z)]; exact z⟩
  · rw [upd_ne (Ne.symm a.loc)]
    exact I.free
  · rw [upd_ne (a.cel x c q)]
    exact I.freeC x c q
  · obtain ⟨z1, z2, z3⟩ := I.pin pp hp
    exact ⟨z1, by rw [upd_ne (a.pin pp hp)]; exact z2, z3⟩
  · by_cases hb : b = e
    · subst hb
      rw [upd_same] at q
      cases q
      exact ⟨p, ht, st⟩
    · rw [upd_ne hb] at q
      exact (I.hok b u q).stay (fun _ _ _ z => z) (fun c z => by rw [upd_ne (nn c _ z)]; exact z) fun c xs z => by rw [upd_ne (nn c _ z)]; exact z
/-- .. and no more -/
noncomputable def drop (H : Hp) (e : Addr) : Hp := fun b => if b = e then none else H b
theorem drop_same {H : Hp} {e : Addr} : drop H e e = none := if_pos rfl
theorem drop_ne {H : Hp} {e b : Addr} (h : b ≠ e) : drop H e b = H b := if_neg h
theorem Inv.untrack {e : Addr} {φ : Heap → Prop} (I : Inv X pins σ H s) (hH : H e = some (.ext φ)) : Inv X pins σ (drop H e) s := by
  have nn : ∀ b u, H b = some u → (∀ ψ, u ≠ .ext ψ) → b ≠ e := fun b u q nu z => by
    rw [z, hH] at q
    cases q
    exact nu φ rfl
  have n0 : ∀ b, H b = none → drop H e b = none := fun b q => by
    unfold drop
    split
    · rfl
    · exact q
  refine ⟨I.ok, I.os, I.bare, ⟨I.base.keep, I.base.slot, fun b o q n hx => n0 b (I.base.free b o q n hx), I.base.there, fun b xs q => ?_, fun b o u q => ?_, fun b ps q => ?_⟩, I.loc, I.cell, n0 _ I.free, fun x c q => n0 _ (I.freeC x c q), fun pp hp => ?_, fun b u q => ?_, I.len⟩
  · have z := I.base.tups b xs q
    rw [drop_ne (nn b _ z fun ψ y => by cases y)]
    exact z
  · have z := I.base.frzs b o u q
    rw [drop_ne (nn b _ z fun ψ y => by cases y)]
    exact z
  · obtain ⟨m, z⟩ := I.base.tbls b ps q
    exact ⟨m, by rw [drop_ne (nn b _ z fun ψ y => by cases y)]; exact z⟩
  · obtain ⟨z1, z2, z3⟩ := I.pin pp hp
    exact ⟨z1, n0 _ z2, z3⟩
  · by_cases hb : b = e
    · subst hb
      rw [drop_same] at q
      cases q
    · rw [drop_ne hb] at q
      exact (I.hok b u q).stay (fun _ _ _ z => z) (fun c z => by rw [drop_ne (nn c _ z fun ψ y => by cases y)]; exact z) fun c xs z => by rw [drop_ne (nn c _ z fun ψ y => by cases y)]; exact z

/-- a name is taken out of the frame -/
theorem gone_ok {M : Model} {A : Around} {E : Value → Shared → Prop} {i : Nat} {n : Str} {pos : Pos} {Q : Unit → Shared → Prop} (I : Inv X pins σ H s) (hN : X.N.Nodup) (hi : X.N[i]? = some n) (hk : X.env.scope.names.lookup n = some .local)
    (h : ∀ s', Inv X pins (σ.set i none) H s' → Q () s') : wpAny M A (do bindName X.env n .none; unbindBehindTheSuite X.env n pos) Q E s := by
  obtain ⟨m, hn, hl⟩ := id I.loc
  have hcls : (X.env.scope.kind == .class || (X.env.scope.kind == .module && X.env.locals != X.env.globals)) = false := by rw [I.ok.kind]; rfl
  have hiσ : i < σ.length := by rw [I.len]; exact (List.getElem?_eq_some_iff.mp hi).1
  refine wpAny_nameGoes_keeps hk hn hcls fun h' v hn' hs => h _ ?_
  obtain ⟨oL, _, _, hoL, _⟩ := id hn
  refine ⟨I.ok, I.os, I.bare, ⟨fun b o e n hb hx => ?_, fun b o e n hb hx => ?_, I.base.free, fun b o e hx => ?_, I.base.tups, I.base.frzs, I.base.tbls⟩, ⟨_, hn', fun j y v' e1 e2 e3 => ?_⟩, fun y c e => ?_, I.free, I.freeC, fun p hp => ?_, fun b ob e => ?_, by simpa using I.len⟩
  · exact (hs.2 b (Nat.ne_of_lt (Nat.lt_of_lt_of_le (Heap.lt_size e) I.ok.above))).trans (I.base.keep b o e n hb hx)
  · obtain ⟨sl, e1⟩ := I.base.slot b o e n hb hx
    exact ⟨sl, (hs.2 b (Nat.ne_of_lt (Nat.lt_of_lt_of_le (Heap.lt_size e) I.ok.above))).trans e1⟩
  · obtain ⟨o', e1⟩ := I.base.there b o e hx
    exact ⟨o', (hs.2 b (Nat.ne_of_lt (Nat.lt_of_lt_of_le (Heap.lt_size e) I.ok.above))).trans e1⟩
  · by_cases hj : j = i
    · subst hj
      rw [List.getElem?_set_self hiσ] at e2
      cases e2
    · rw [List.getElem?_set_ne (Ne.symm hj)] at e2
      obtain ⟨u', r', q⟩ := hl j y v' e1 e2 e3
      refine ⟨u', r', ?_⟩
      rcases q with ⟨k, e⟩ | ⟨k, c, e, z⟩
      · refine .inl ⟨k, ?_⟩
        have : y ≠ n := fun e => hj (nodup_ix hN e1 (e ▸ hi))
        simp [this, e]
      · exact .inr ⟨k, c, e, z.sameBut hs (I.cne y c e)⟩
  · obtain ⟨w', z⟩ := I.cell y c e
    exact ⟨w', z.sameBut hs (I.cne y c e)⟩
  · obtain ⟨e, n, ne, nf, d⟩ := I.pin p hp
    exact ⟨(hs.2 p.1 ne).trans e, n, ne, nf, d⟩
  · refine (I.hok b ob e).stay (fun c w' hc q => (hs.2 c ?_).trans q) (fun _ q => q) fun _ _ q => q
    rintro rfl
    have fr := I.free
    rcases hc with rfl | hc
    · rw [fr] at e; cases e
    · rw [fr] at hc; cases hc
end
end L2

namespace L2
open PySem PySem.Spec PyProof.Rows

/-- a class of the text stands in an except -/
structure CatchC (K : PySem.W.Frag) (mg : Str → Option Value) (x : Str) (C : Addr) : Prop where
  bound : mg x = some (.ref C)
  obj : ∃ dd cd sl, K.lookup C = some ⟨.type "type", dd, .cls cd, sl⟩
  exc : PySem.W.mroIn K C (.type "BaseException") = some true
theorem excm_K {K : PySem.W.Frag} {mg : Str → Option Value} {x : Str} {prog : Program} {w : World} {A : Around} {E : Value → Shared → Prop} {s : Shared} {e C Cc : Addr} {oe : Obj} {b : Bool} {Q : Bool → Shared → Prop} (X : K.In s.heap) (hm : PySem.W.mroIn K C (.ref Cc) = some b)
    (cc : CatchC K mg x Cc) (he : s.heap.get? e = some oe) (hcls : oe.cls = .ref C) (q : Q b s) : wpAny (model prog w) A (excMatches (.ref e) (.ref Cc)) Q E s := by
  obtain ⟨dd, cd, sl, hl⟩ := cc.obj
  have L1 := PySem.W.looks_mroIn (M := model prog w) X hm
  have L2 := PySem.W.looks_mroIn (M := model prog w) X cc.exc
  have hC := X _ _ hl
  have f := tc_notTuple
  have hT : s.TypeIs (.ref Cc) "type" := ⟨_, hC, rfl⟩
  obtain ⟨hp, g, d, tk, os⟩ := s
  unfold excMatches
  repeat (first | (with_reducible refine wpAny_loadPart_at he ?_; rw [hcls]) | (with_reducible refine wpAny_loadPart_at hC ?_) | (with_reducible refine L1.here ?_) | (with_reducible refine L2.here ?_) | wp_step)
  cases b with
  | true =>
    wp_walk
    exact q
  | false =>
    wp_walk
    exact q

/-- what is known of an exception that was caught -/
noncomputable def ExcC (e : Addr) (cls : Value) (dct : Option Addr) : HO := .ext fun h => ∃ oe vs, h.get? e = some oe ∧ oe.cls = cls ∧ oe.dict = dct ∧ oe.data = .fields vs

/-- the suite of an except -/
noncomputable abbrev Cx.sup (X : Cx) (e : Addr) : Cx := { X with A := X.A.mark (some (.ref e)), calm := false, xe := fun _ _ => False }
theorem Cx.Ok.sup {X : Cx} (ok : X.Ok) (e : Addr) : (X.sup e).Ok :=
  ⟨ok.mod, ok.kind, ok.glob, ok.blt, ok.above, ok.inj, ok.has, ok.cab, (fun z => absurd (show false = true from z) (by decide)), ok.frames, ok.stk, ok.exf, ok.bs, ok.bsz, ok.noex, ok.exfs, ok.funs, ok.frf⟩
section
variable {X : Cx} {pins : List (Addr × Obj)} {σ : St} {H : Hp} {s : Shared} {e : Addr}
theorem Inv.sup (I : Inv X pins σ H s) (e : Addr) : Inv (X.sup e) pins σ H s := ⟨I.ok.sup e, I.os, I.bare, I.base, I.loc, I.cell, I.free, I.freeC, I.pin, I.hok, I.len⟩
theorem Inv.unsup (ok : X.Ok) (I : Inv (X.sup e) pins σ H s) : Inv X pins σ H s := ⟨ok, I.os, I.bare, I.base, I.loc, I.cell, I.free, I.freeC, I.pin, I.hok, I.len⟩

/-- the record of an entry turns -/
theorem Inv.recd {T : Addr} {h' : Heap} (I : Inv X pins σ H s) (a : Apart X pins T) (hT : H T = none) (nf : T ∉ X.fs) (k : ∀ b o, b ≠ T → s.heap.get? b = some o → h'.get? b = some o) : Inv X pins σ H { s with heap := h' } := by
  have kt : ∀ b u, H b = some u → b ≠ T := fun b u q z => by
    rw [z, hT] at q
    cases q
  refine I.stepN (g' := s.gens) (d' := s.drawn) (t' := s.toks) (ch := [T]) (fun b hb => ?_) (fun b o _ _ hc q _ => k b o (by simpa using hc) q) (fun b o _ hf hc q _ => ⟨o.slots, k b o (by simpa using hc) q⟩) (fun b o _ _ n => n)
    (fun b o hc q => ⟨o, k b o (by simpa using hc) q⟩) (fun _ _ q => q) (fun _ _ _ q => q) (fun b ps q => ⟨#[], by rw [q]; simp⟩) (fun m hm => ?_) (fun b u q => ?_) I.bare
  · have z : b = T := by simpa using hb
    subst z
    exact ⟨.inr a.old, a.loc, a.cel, a.pin⟩
  · obtain ⟨o, es, ep, ho, r⟩ := hm
    exact ⟨o, es, ep, k _ o (Ne.symm a.loc) ho, r⟩
  · refine (I.hok b u q).stay (fun c v hc z => k c v ?_ z) (fun _ z => z) fun _ _ z => z
    rcases hc with rfl | hc
    · exact kt c u q
    · exact kt c _ hc

/-- an exception of a callee is looked at: where it lies then -/
theorem catch_core {M : Model} {E0 : Value → Shared → Prop} {E : XK} {ev : Value} {s' : Shared} {Q : Shared → Prop} (hst : X.stack = X.env :: X.outer) (hfr : X.env.frame = some X.env.locals) (hex : X.ex = []) (I : Inv X pins σ H s)
    (hc : CX1 X.prog X.w X.stack H s E ev s')
    (k : ∀ e T cls dct H' s3, ev = .ref e → E cls dct H' → H' e = none → H' T = none → Apart X pins e → Apart X pins T → T ∉ X.fs → Inv X pins σ H' s3 → Fly s3.heap e T cls dct → Q s3) :
    wpAny M X.A (noteFrame ev X.env) (fun _ s2 => wpAny M X.A (setFlight ev none) (fun _ s3 => Q s3) E0 s2) E0 s' := by
  obtain ⟨e, T0, cls, dct, H', rfl, os, bare, un, hok, F0, hne, hnT, hHe, hHT, q⟩ := hc
  have I' : Inv X pins σ H' s' := I.call' (ch := []) os un hok bare fun b z => absurd z (by simp)
  have ae := I.apart hex hne
  have aT0 := I.apart hex hnT
  have hfr' : X.A.frames = some (X.env :: X.outer) := by rw [I.ok.frames, hst]
  have hst' : s'.heap.FunFrames X.base (X.env :: X.outer) := by have z := I'.stack; rwa [hst] at z
  have nfs : ∀ b, b ≠ X.env.locals → b ∉ X.fs → b ∉ frs (X.env :: X.outer) := fun b h1 h2 z => by
    unfold frs at z
    rw [List.filterMap_cons, hfr] at z
    rcases List.mem_cons.mp z with z | z
    · exact h1 z
    · exact h2 z
  refine note_next (base := X.base) (L := X.env.locals) hfr' hst' hfr F0 fun h1 T k1 k2 bT F1 k3 => ?_
  refine flight_x (s := { s' with heap := h1 }) F1 fun h2 k4 F2 => ?_
  have tn : ∀ b o, s'.heap.get? b = some o → b ≠ T := fun b o z => Nat.ne_of_lt (Nat.lt_of_lt_of_le (Heap.lt_size z) bT)
  have HT : H' T = none := hok.fresh bT
  have aT := I'.apart hex (Heap.get?_none_of_le bT)
  have tr : ∀ b u, H' b = some u → b ≠ e ∧ b ≠ T0 ∧ b ∉ frs (X.env :: X.outer) := fun b u z => ⟨(fun y => absurd ((congrArg H' y).symm.trans z) (by rw [hHe]; simp)), (fun y => absurd ((congrArg H' y).symm.trans z) (by rw [hHT]; simp)), fun y => absurd ((I'.stkFree b (by rw [hst]; exact y)).symm.trans z) (by simp)⟩
  refine k e T cls dct H' { s' with heap := h2 } rfl q hHe HT ae aT (I'.nofs bT) ?_ F2
  refine I'.stepN (g' := s'.gens) (d' := s'.drawn) (t' := s'.toks) (ch := [e, T0]) (fun b hb => ?_) (fun b o hL hf hc z _ => k4 b o (tn b o z) (k1 b o (fun y => hc (by simp [y])) (fun y => hc (by simp [y])) (nfs b hL hf) z))
    (fun b o _ _ hc z _ => by
      obtain ⟨sl, z1⟩ := k2 b o (fun y => hc (by simp [y])) (fun y => hc (by simp [y])) z
      exact ⟨sl, k4 b _ (tn b o z) z1⟩) (fun _ _ _ _ n => n)
    (fun b o _ z => by
      obtain ⟨o1, z1⟩ := k3 b o z
      exact ⟨o1, k4 b _ (tn b o z) z1⟩) (fun _ _ z => z) (fun _ _ _ z => z) (fun b ps z => ⟨#[], by rw [z]; simp⟩) (fun m hm => ?_) (fun b u z => ?_) bare
  · rcases List.mem_cons.mp hb with z | hb
    · subst z
      exact ⟨.inr ae.old, ae.loc, ae.cel, ae.pin⟩
    · have z : b = T0 := by simpa using hb
      subst z
      exact ⟨.inr aT0.old, aT0.loc, aT0.cel, aT0.pin⟩
  · obtain ⟨o, es, ep, ho, r⟩ := hm
    obtain ⟨sl, z1⟩ := k2 _ o (Ne.symm ae.loc) (Ne.symm aT0.loc) ho
    exact ⟨_, es, ep, k4 _ _ (tn _ o ho) z1, r⟩
  · refine (I'.hok b u z).stay (fun c v hc y => ?_) (fun _ y => y) fun _ _ y => y
    have t3 : c ≠ e ∧ c ≠ T0 ∧ c ∉ frs (X.env :: X.outer) := by
      rcases hc with rfl | hc
      · exact tr c u z
      · exact tr c _ hc
    exact k4 c v (tn c v y) (k1 c v t3.1 t3.2.1 t3.2.2 y)

/-- the suite of an except with a name, as a def's body runs it -/
theorem suite_as {Cc e T : Addr} {cls : Value} {dct : Option Addr} {s3 : Shared} {D : Ends} {cx n : Str} {np hpos : Pos} {i : Nat} {b₀ : Stmt} {suite : List Stmt} {rest : List ExceptHandler} {ts : TS} (cc : CatchC X.K X.mg cx Cc) (hg : Gl X cx)
    (hN : X.N.Nodup) (hi : X.N[i]? = some n) (hk : X.env.scope.names.lookup n = some .local) (hs : PSs (X.sup e) (b₀ :: suite) ts) (hm : ∃ C, cls = .ref C ∧ PySem.W.mroIn X.K C (.ref Cc) = some true)
    (hH : H e = none) (hT : H T = none) (ae : Apart X pins e) (aT : Apart X pins T) (nT : T ∉ X.fs) (I : Inv X pins σ H s3) (F : Fly s3.heap e T cls dct)
    (h : ts { nx := fun σ' H' => D.nx (σ'.set i none) H', rt := D.rt, bk := fun σ' H' => D.bk (σ'.set i none) H', ct := fun σ' H' => D.ct (σ'.set i none) H' } (σ.set i (some (.ref e))) (upd H e (ExcC e cls dct))) (hd : (cx == ("__debug__" : Str)) = false := by decide) :
    wpAny (model X.prog X.w) X.A (handleBy (.ref e) X.env (.ExceptHandler (some (.Name cx np)) (some n) (b₀ :: suite) hpos :: rest)) (SP X pins D) X.xe s3 := by
  obtain ⟨C, rfl, hmro⟩ := hm
  obtain ⟨oe, vs, oT, ts', he, hcl, hdx, hdt, h1, ne, hoT, hdT, h3⟩ := id F
  have Is := I.sup e
  refine wpAny_handleBy_cons (codeAny_handlers_test (ld_glob (X := X.sup e) Is hg cc.bound ?_ hd)) (by intro q; cases q)
  refine excm_K I.kIn hmro cc he hcl ?_
  refine codeAny_handlers_suite_as (flight_x F fun h' k' F' => ?_)
  have I1 : Inv X pins σ H { s3 with heap := h' } := I.recd aT hT nT k'
  obtain ⟨oe', vs', oT', tsx, he', hcl', hdx', hdt', _⟩ := id F'
  have I2 : Inv X pins σ (upd H e (ExcC e (.ref C) dct)) { s3 with heap := h' } := I1.track ae hH ⟨oe', he'⟩ ⟨oe', vs', he', hcl', hdx', hdt'⟩ fun g1 g2 ⟨a, b, c, d⟩ z => ⟨a, b, z a c, d⟩
  refine store_ok (X := X.sup e) (I2.sup e) hN hi (.inl hk) (v := .ref e) rfl (fun s4 I4 => ?_) (.inr hk)
  refine wpAny_mono (hs pins s4 _ _ _ I4 h) (fun f s5 q => ?_) fun _ _ z => False.elim z
  have go : ∀ {σ5 : St} {H5 : Hp} {f : Flow}, Inv (X.sup e) pins σ5 H5 s5 → (∀ s6, Inv X pins (σ5.set i none) H5 s6 → SP X pins D f s6) → wpAny (model X.prog X.w) X.A (do bindName X.env n .none; unbindBehindTheSuite X.env n hpos) (fun _ s6 => SP X pins D f s6) X.xe s5 :=
    fun I5 k5 => gone_ok (I5.unsup I.ok) hN hi hk fun s6 I6 => k5 s6 I6
  cases f with
  | next => obtain ⟨σ5, H5, I5, q5⟩ := q; exact go I5 fun s6 I6 => ⟨_, H5, I6, q5⟩
  | brk => obtain ⟨σ5, H5, I5, q5⟩ := q; exact go I5 fun s6 I6 => ⟨_, H5, I6, q5⟩
  | cont => obtain ⟨σ5, H5, I5, q5⟩ := q; exact go I5 fun s6 I6 => ⟨_, H5, I6, q5⟩
  | ret u => obtain ⟨v5, σ5, H5, I5, r5, q5⟩ := q; exact go I5 fun s6 I6 => ⟨v5, _, H5, I6, r5, q5⟩
end
end L2

namespace L2
open PySem PySem.Spec PyProof.Rows

/-- an expression whose exceptions come from one callee; E: what is wanted of them -/
noncomputable def PX (X : Cx) (e : Expr) (te : XK → TE) : Prop :=
  ∀ (pins : List (Addr × Obj)) (s : Shared) (σ : St) (H : Hp) (Q : VK) (E : XK) (W : Value → Shared → Prop), Inv X pins σ H s → te E σ H Q →
    (∀ s1 H1 ev s', Inv X pins σ H1 s1 → CX1 X.prog X.w X.stack H1 s1 E ev s' → W ev s') → wpAny (model X.prog X.w) X.A (eval e X.env) (EP X pins σ Q) W s
section
variable {X : Cx} {k : Nat} {f C : Addr} {fd : FuncData} {ps : List Str} {sp : Sp} {dvs : List V} {ds : List Value} {x m : Str} {p pos apos epos cpos : Pos} {e o : Expr} {es : List Expr} {ta : TE} {t : TA}
theorem run_fnW {W : Value → Shared → Prop} {E : XK} {pins : List (Addr × Obj)} {σ : St} {H : Hp} {s : Shared} {Q : VK} {us : List Value} {vs : List V} (F : FnOk X.prog X.w X.K X.mg X.base (CX1 X.prog X.w) k f fd ps sp) (hr : Room k X.A) (hb : Binds X.K fd ps ds) (hd : Vals dvs ds)
    (I : Inv X pins σ H s) (r : Vals vs us) (h : sp (vs ++ dvs) H Q E) (hx : ∀ ev s', CX1 X.prog X.w X.stack H s E ev s' → W ev s') : wpAny (model X.prog X.w) X.A (call (.ref f) us) (EP X pins σ Q) W s := by
  have r2 : Vals (vs ++ dvs) (us ++ ds) := r.append hd
  have hl : (us ++ ds).length = ps.length := by rw [← r2.length]; exact F.len _ _ _ _ h
  refine wpAny_call (codeAny_mono (F.run X.A X.stack s H ⟨us, []⟩ (us ++ ds) (vs ++ dvs) Q E hr I.env0 (hb s us I.kIn hl) r2 h) fun r s' hq => ?_)
  cases r with
  | error ev => exact hx ev s' hq
  | ok fl =>
    cases fl with
    | ret u => exact I.after hq
    | next => exact False.elim hq
    | brk => exact False.elim hq
    | cont => exact False.elim hq

/-! ### try: one call; one except -/
variable {te : XK → TE} {cx n : Str} {np hpos tpos : Pos} {i : Nat} {b₀ : Stmt} {suite : List Stmt} {ts : TS} {Cc : Addr} {call : Expr}
theorem body_one {W : Value → Shared → Prop} {Q : Flow → Shared → Prop} {s : Shared} {pins : List (Addr × Obj)} {σ : St} {Q' : VK} (hq : X.env.scope.kind = .function) (h : wpAny (model X.prog X.w) X.A (eval call X.env) (EP X pins σ Q') W s) (k : ∀ s' v H', Inv X pins σ H' s' → Q' v H' → Q .next s')
    (hs : swapsWith call none epos.line X.env = pure false := by rfl) : wpAny (model X.prog X.w) X.A (execs [.Expr call epos] X.env) Q W s := by
  refine wpAny_execs_cons (wpAny_Expr_any (thn h fun v s1 ⟨x, H1, I1, r1, q1⟩ => ?_) (by simp [interactive, hq]) hs)
  exact wpAny_execs_nil (k s1 x H1 I1 q1)
end

section
variable {P : Program} {w : World} {K : PySem.W.Frag} {mg : Str → Option Value} {base : Heap}
/-- THE RULE for a def that may raise -/
theorem Fun.ok1 {x qual : Str} {st : Stmt} {f : Addr} {fd : FuncData} {N ps : List Str} {k : Nat} {sp : Sp} (F : Fun K x qual st f fd) (S : FnScope N ps (defScope st)) (len : ∀ vs H Q E, sp vs H Q E → vs.length = ps.length)
    (hbody : ∀ (cdv : Value) (A : Around) (outer : List Env) (s : Shared) (H : Hp) (vs : List V) (Q : VK) (E : XK), Room k (A.deeper (envOfC qual (defScope st) s.heap.objs.size f cdv)) → sp vs H Q E →
      ∃ t, PSs (cx1 P w K mg base N qual (defScope st) f cdv A outer s H E) (defBody st) t ∧ t { nx := fun _ H' => Q .non H', rt := Q } (start N vs) H) : FnOk P w K mg base (CX1 P w) (k + 1) f fd ps sp := by
  obtain ⟨oc, od, kV, doc, pm, an, cdv, ct, osl, rfl, lk, hcd⟩ := F.ex
  exact fn_of lk hcd S len fun A outer s H vs Q E hr hsp => hbody cdv A outer s H vs Q E hr hsp
end
end L2

set_option maxHeartbeats 4000000
namespace L2
open PySem PySem.Spec PyProof.Rows
open Builtin Builtin.ObjectAttr

noncomputable abbrev bmE : List Value := [.type "Exception", .type "BaseException", .type "object"]
section
variable {prog : Program} {w : World} {A : Around} {E : Value → Shared → Prop} {h : Heap} {g : Array GenState} {d : Drawn} {t : Nat} {os : OsState}
variable {nm q : Str} {C N x : Addr} {bs : List Value} {sn : List Str} {sub : List Value} {ab : Bool} {col : Option Bool} {dd : Option Addr} {k0 k1 k2 k3 k5 : Option Value} {newId : String}
  {mN mA : Str → Option Value} {name : Str} {v : Value}

theorem chk_exc {M : Model} {o : Obj} {nameV : Value} {Q : Unit → Shared → Prop} (hC : h.get? C = some (excClassObj nm q C N bs bmE true sn sub ab col dd k0 k1 k2 k3 k5 newId)) (hx : h.get? x = some o) (hc : o.cls = .ref C)
    (hq : Q () ⟨h, g, d, t, os⟩) : wpAny M A (checkBuiltinCall "BaseException.__getattribute__" ⟨[.ref x, nameV], []⟩) Q E ⟨h, g, d, t, os⟩ := by
  have b1 : builtinKind "BaseException.__getattribute__" = some .slot := by decide +kernel
  have b2 : splitId "BaseException.__getattribute__" = some ("BaseException", "__getattribute__") := by decide +kernel
  have b3 : (Value.ref C :: bmE).contains (.type "BaseException") = true := by rw [List.contains_cons, show bmE.contains (.type "BaseException") = true by decide, Bool.or_true]
  have b4 := F.args_bexc_ga (.ref x) nameV
  simp only [checkBuiltinCall, b1, b2]
  refine wpAny_bind ?_
  unfold isInstance
  repeat (first | (with_reducible refine wpAny_loadPart_at hx ?_; rw [hc]) | (with_reducible refine wpAny_isSubtype_exc hC ?_; rw [b3]) | wp_step)
  exact hq
theorem ent_exc {tk : Tok} {Q : PySem.Fin → Shared → Prop} (hC : h.get? C = some (excClassObj nm q C N bs bmE true sn sub ab col dd k0 k1 k2 k3 k5 newId)) (hn : h.Ns N mN) (hna : mN name = none)
    (hB : typeLookup (.type "Exception") name = pure none) (I : h.Inst x C mA) (hv : mA name = some v) (hq : Q (.done (.ret v)) ⟨h, g, d, t, os⟩) :
    wpAny (model prog w) A (Builtin.«object.__getattribute__» ⟨[.ref x, .str name tk], []⟩) Q E ⟨h, g, d, t, os⟩ := by
  obtain ⟨o, hx, hc, hnc, hd⟩ := I
  rcases hd with ⟨_, hmA⟩ | ⟨dx, hdx, hne, hns⟩
  · rw [hmA name] at hv
    cases hv
  unfold Builtin.«object.__getattribute__»
  repeat (first | (with_reducible refine wpAny_loadPart_at hx ?_; rw [hc]) | (with_reducible refine wpAny_typeLookup_exc hC hn F.attrBase_Exception.mro hB ?_; rw [hna]) | wp_step)
  split
  · rename_i c hcd
    exact absurd hcd (hnc c)
  unfold instanceDict
  repeat (first | (with_reducible refine wpAny_loadPart_at hx ?_; rw [hc]) | with_reducible refine wpAny_loadPart_at hC ?_ | wp_step)
  rw [hdx]
  repeat (first | (with_reducible refine wpAny_nsGet hns.ns ?_; rw [hv]) | wp_step)
  exact hq
theorem load_exc {expr : Bool} {Q : Value → Shared → Prop} (hC : h.get? C = some (excClassObj nm q C N bs bmE true sn sub ab col dd k0 k1 k2 k3 k5 newId)) (hn : h.Ns N mN) (hng : mN "__getattribute__" = none) (hnh : mN "__getattr__" = none) (hna : mN name = none)
    (hB : typeLookup (.type "Exception") name = pure none) (I : h.Inst x C mA) (hv : mA name = some v) (hh : handedOut v = pure v) (hq : Q v ⟨h, g, d, t + 1, os⟩) : wpAny (model prog w) A (getAttr (.ref x) name expr) Q E ⟨h, g, d, t, os⟩ := by
  obtain ⟨o, hx, hc, _⟩ := id I
  have FB := F.attrBase_Exception
  have f3 := FB.ga.bind (.ref x)
  have x0 : (expr && onTheHeap (Value.builtin "BaseException.__getattribute__")) = false := by cases expr <;> rfl
  have x2 : (Value.builtin "BaseException.__getattribute__" == Value.builtin "object.__getattribute__") = false := by decide +kernel
  have x1 : (onTheHeap (Value.ref C) && Value.builtin "BaseException.__getattribute__" == Value.builtin "object.__getattribute__") = false := by rw [x2]; rfl
  unfold getAttr getAttrBy
  repeat (any_goals (first | assumption | (with_reducible refine wpAny_loadPart_at hx ?_; rw [hc]) | (with_reducible refine wpAny_typeLookup_exc hC hn FB.mro FB.ga.lookup ?_; rw [hng]) | (with_reducible refine wpAny_typeLookup_exc hC hn FB.mro FB.noGetattr ?_; rw [hnh]) | wp_step))
  refine codeAny_call_builtin FB.ga.plain F.entry_bexc_ga (chk_exc hC hx hc (ent_exc hC hn hna hB I hv ?_))
  show wpAny _ _ (handedOut v) _ _ _
  rw [hh]
  exact wpAny_pure hq

end
end L2

set_option maxHeartbeats 1000000
namespace L2
open PySem PySem.Spec PyProof.Rows
open Builtin Builtin.ObjectAttr

section
variable {prog : Program} {w : World} {A : Around} {E : Value → Shared → Prop} {h : Heap} {g : Array GenState} {d : Drawn} {t : Nat} {os : OsState}
variable {nm q : Str} {C N x : Addr} {bs : List Value} {sn : List Str} {sub : List Value} {ab : Bool} {col : Option Bool} {dd : Option Addr} {k0 k1 k2 k3 k5 : Option Value} {newId : String}
  {mN mA : Str → Option Value} {name : Str} {v : Value}

/-- the first attribute of an exception: its dict is laid at the heap's end -/
theorem sav_dict {tk : Tok} {o : Obj} {vs : Array Value} {b : Bool} {Q : PySem.Fin → Shared → Prop} (hC : h.get? C = some (excClassObj nm q C N bs bmE true sn sub ab col dd k0 k1 k2 k3 k5 newId)) (hx : h.get? x = some o) (hc : o.cls = .ref C) (hdn : o.dict = none) (hdt : o.data = .fields vs)
    (hq : ∀ h' tk, h'.get? x = some { o with dict := some h.objs.size } → h'.Ns1 h.objs.size (fun y => if y = name then some v else none) → (∀ b ob, b ≠ x → h.get? b = some ob → h'.get? b = some ob) → Q (.done (.ret .none)) ⟨h', g, d, tk, os⟩) :
    wpAny (model prog w) A (storeInOwnDict (.ref x) (.ref C) (.str name tk) name v b) Q E ⟨h, g, d, t, os⟩ := by
  unfold storeInOwnDict ownStreamTells ownDictForStores instanceDict
  repeat (first | (with_reducible refine wpAny_loadPart_at hx ?_; rw [hc]) | with_reducible refine wpAny_loadPart_at hC ?_ | wp_step)
  rw [hdn, if_neg (by simp [typeHasDict]), hdt]
  have x1 : (h.push { cls := .type "dict", data := .dict #[] }).get? x = some o := Heap.get?_push_of_some _ hx
  have xs : x ≠ h.objs.size := Nat.ne_of_lt (Heap.lt_size hx)
  refine wpAny_bind (wpAny_alloc' (wpAny_bind (wpAny_update' x1 (wpAny_pure ?_))))
  generalize hu : ((h.push { cls := .type "dict", data := .dict #[] }).update x fun o => { cls := o.cls, dict := some h.objs.size, data := o.data, slots := o.slots }) = hh
  have g1 : hh.get? h.objs.size = some { cls := .type "dict", data := .dict #[] } := by
    rw [← hu]
    exact (Heap.get?_update_ne _ _ _ _ xs.symm).trans (Heap.get?_push_at rfl rfl)
  have g2 : hh.get? x = some { o with dict := some h.objs.size } := by
    rw [← hu]
    refine Heap.get?_update_self _ x1 ?_
    obtain ⟨oc, od, odt, osl⟩ := o
    cases hdt
    rfl
  have nd : hh.Ns h.objs.size (fun _ => none) := ⟨_, #[], _, g1, rfl, fun e he => absurd he (by simp), fun _ => rfl⟩
  show wpAny _ _ (storeInDict h.objs.size (.str name tk) name v) _ _ _
  unfold storeInDict newKeyGuard
  refine wpAny_bind (wpAny_pure (wpAny_bind (wpAny_nsSet1 (Heap.Ns1.of_empty nd) fun h' hn' hs => ?_)))
  obtain ⟨oD, esD, epD, hoD, hdD, hcD⟩ := hn'.count (Within.cons name v Within.nil)
  refine wpAny_bind (wpAny_lookBehind hoD (by rw [hdD]; exact pastItsLine_dict (Nat.le_trans hcD (by rw [List.length_cons, List.length_nil, sizeLine_eq]; omega))) ?_)
  wp_walk
  refine hq h' _ ((hs.2 x xs).trans g2) hn' fun b ob hb z => (hs.2 b (Nat.ne_of_lt (Heap.lt_size z))).trans ?_
  show hh.get? b = some ob
  rw [← hu]
  exact (Heap.get?_update_ne _ _ _ _ hb).trans (Heap.get?_push_of_some _ z)
theorem sav_entry {tk : Tok} {o : Obj} {vs : Array Value} {Q : PySem.Fin → Shared → Prop} (hC : h.get? C = some (excClassObj nm q C N bs bmE true sn sub ab col dd k0 k1 k2 k3 k5 newId)) (hn : h.Ns N mN) (hna : mN name = none)
    (hB : typeLookup (.type "Exception") name = pure none) (hx : h.get? x = some o) (hc : o.cls = .ref C) (hdn : o.dict = none) (hdt : o.data = .fields vs)
    (hq : ∀ h' tk, h'.get? x = some { o with dict := some h.objs.size } → h'.Ns1 h.objs.size (fun y => if y = name then some v else none) → (∀ b ob, b ≠ x → h.get? b = some ob → h'.get? b = some ob) → Q (.done (.ret .none)) ⟨h', g, d, tk, os⟩) :
    wpAny (model prog w) A (Builtin.«object.__setattr__» ⟨[.ref x, .str name tk, v], []⟩) Q E ⟨h, g, d, t, os⟩ := by
  rw [PySem.W.osa_eq, refuse_eq]
  have hT : ∀ {Q : Value → Shared → Prop}, Q (.ref C) ⟨h, g, d, t, os⟩ → wpAny (model prog w) A (typeOf (.ref x)) Q E ⟨h, g, d, t, os⟩ := fun {Q} z => by
    unfold typeOf
    repeat (first | (with_reducible refine wpAny_loadPart_at hx ?_; rw [hc]) | wp_step)
    exact z
  refine wpAny_bind (wpAny_bind (hT (wpAny_bind (wpAny_mroOf_exc hC ?_))))
  rw [refuseLoop_ref, F.store_Exception.passes (.ref x)]
  refine wpAny_pure (wpAny_bind (hT (wpAny_bind (wpAny_typeLookup_exc hC hn F.store_Exception.mro hB ?_))))
  rw [hna]
  refine wpAny_bind (wpAny_pure ?_)
  exact sav_dict hC hx hc hdn hdt hq
theorem store_E : StoreFacts "Exception" bmE "object.__setattr__" "object" := F.store_Exception
theorem sav_chk {tk : Tok} {o : Obj} {Q : Unit → Shared → Prop} (hC : h.get? C = some (excClassObj nm q C N bs bmE true sn sub ab col dd k0 k1 k2 k3 k5 newId)) (hx : h.get? x = some o) (hc : o.cls = .ref C) (hq : Q () ⟨h, g, d, t, os⟩) :
    wpAny (model prog w) A (checkBuiltinCall "object.__setattr__" ⟨[.ref x, .str name tk, v], []⟩) Q E ⟨h, g, d, t, os⟩ :=
  @wpAny_check_sa A E h g d t os nm q C N x bs bmE sn sub ab col dd k0 k1 k2 k3 k5 "Exception" newId "object.__setattr__" "object" v (model prog w) o (.str name tk) Q store_E hC hx hc hq
theorem sav_call {tk : Tok} {o : Obj} {vs : Array Value} {R : Result → Shared → Prop} (hC : h.get? C = some (excClassObj nm q C N bs bmE true sn sub ab col dd k0 k1 k2 k3 k5 newId)) (hn : h.Ns N mN) (hna : mN name = none)
    (hB : typeLookup (.type "Exception") name = pure none) (hx : h.get? x = some o) (hc : o.cls = .ref C) (hdn : o.dict = none) (hdt : o.data = .fields vs)
    (hq : ∀ h' tk, h'.get? x = some { o with dict := some h.objs.size } → h'.Ns1 h.objs.size (fun y => if y = name then some v else none) → (∀ b ob, b ≠ x → h.get? b = some ob → h'.get? b = some ob) → R (.ok (.ret .none)) ⟨h', g, d, tk, os⟩) :
    codeAny (model prog w) A (.call (.builtin "object.__setattr__") ⟨[.ref x, .str name tk, v], []⟩) R ⟨h, g, d, t, os⟩ := by
  refine codeAny_call_builtin store_E.slot.plain store_E.entry ?_
  exact sav_chk hC hx hc (sav_entry (vs := vs) hC hn hna hB hx hc hdn hdt hq)
theorem sav_exc {o : Obj} {vs : Array Value} {Q : Unit → Shared → Prop} (hC : h.get? C = some (excClassObj nm q C N bs bmE true sn sub ab col dd k0 k1 k2 k3 k5 newId)) (hn : h.Ns N mN) (hns : mN "__setattr__" = none) (hna : mN name = none)
    (hB : typeLookup (.type "Exception") name = pure none) (hx : h.get? x = some o) (hc : o.cls = .ref C) (hdn : o.dict = none) (hdt : o.data = .fields vs)
    (hq : ∀ h' tk, h'.get? x = some { o with dict := some h.objs.size } → h'.Ns1 h.objs.size (fun y => if y = name then some v else none) → (∀ b ob, b ≠ x → h.get? b = some ob → h'.get? b = some ob) → Q () ⟨h', g, d, tk, os⟩) :
    wpAny (model prog w) A (setAttr (.ref x) name v) Q E ⟨h, g, d, t, os⟩ := by
  have SF := F.store_Exception
  have f3 := SF.slot.bind (.ref x)
  unfold setAttr callSpecial? specialOf
  repeat (any_goals (first | assumption | (with_reducible refine wpAny_loadPart_at hx ?_; rw [hc]) | (with_reducible refine wpAny_typeLookup_exc hC hn SF.mro SF.slot.lookup ?_; rw [hns]) | wp_step))
  refine sav_call hC hn hna hB hx hc hdn hdt fun h' tk a b c => ?_
  repeat (any_goals (first | assumption | wp_step))
  exact hq h' tk a b c
end
end L2

/-! COMPREHENSIONS over the hand layer: a list of one for, with tests; what the block captures. -/
namespace L2
open PySem PySem.Spec PyProof.Rows

section
variable {prog : Program} {w : World} {A : Around} {R : Result → Shared → Prop} {s : Shared}
theorem comp_loop {elt target iter : Expr} {ifs : List Expr} {scope : Scope} {pos : Pos} {it acc : Value} {env : Env} (I : Nat → Shared → Prop)
    (turn : ∀ n s, I n s → wpAny (model prog w) A (pyNext it) (fun r s1 => match r with
      | none => R (.ok .next) s1
      | some v => wpAny (model prog w) A (letOwnedTupleGo target it v) (fun _ s1' => wpAny (model prog w) A (assign target env v) (fun _ s2 =>
          wpAny (model prog w) A (forIn ifs true fun c r => if r = true then do let ok ← isTrue c env (eval c env); pure (ForInStep.yield ok) else pure (ForInStep.yield r)) (fun ok s3 =>
            if ok = true then wpAny (model prog w) A (eval elt env) (fun x s4 =>
              wpAny (model prog w) A (call (.builtin "list.append") [acc, x]) (fun _ s5 => ∃ m, m < n ∧ I m s5) (notedBy (model prog w) A env fun e s' => R (.error e) s') s4) (notedBy (model prog w) A env fun e s' => R (.error e) s') s3
            else ∃ m, m < n ∧ I m s3) (notedBy (model prog w) A env fun e s' => R (.error e) s') s2) (notedBy (model prog w) A env fun e s' => R (.error e) s') s1') (notedBy (model prog w) A env fun e s' => R (.error e) s') s1) (notedBy (model prog w) A env fun e s' => R (.error e) s') s)
    (n : Nat) (h : I n s) : codeAny (model prog w) A (.compLoop (.ListComp elt [⟨target, iter, ifs, 0⟩] scope pos) 0 it acc env) R s := by
  refine codeAny_loop rfl I (fun n s hI => ?_) n h
  show wpAny _ A ((compTurn (.ListComp elt [⟨target, iter, ifs, 0⟩] scope pos) 0 it acc env).onRaise (fun x => do noteFrame x env; theTreesLotGoes x)) _ _ s
  refine wpAny_noted ?_
  rw [compTurn_list]
  refine wpAny_bind (wpAny_standAt (wpAny_bind (thn (turn n s hI) fun r s1 h1 => ?_)))
  cases r with
  | none => exact wpAny_pure h1
  | some v =>
    refine wpAny_bind (thn h1 fun _ s1' h1' => wpAny_bind (thn h1' fun _ s2 h2 => wpAny_bind (thn h2 fun ok s3 h3 => ?_)))
    cases ok with
    | false => exact wpAny_pure ⟨rfl, h3⟩
    | true => exact wpAny_bind (wpAny_bind (thn h3 fun x s4 h4 => wpAny_bind (thn h4 fun _ s5 h5 => wpAny_pure (wpAny_pure ⟨rfl, h5⟩))))
end

/-- the tests of a comprehension, from the left -/
noncomputable def PIfs (X : Cx) (ifs : List Expr) (t : TT) : Prop :=
  ∀ (pins : List (Addr × Obj)) (s : Shared) (σ : St) (H : Hp) (Q : Bool → Hp → Prop), Inv X pins σ H s → t σ H Q →
    wpAny (model X.prog X.w) X.A (forIn ifs true fun c r => if r = true then do let ok ← isTrue c X.env (eval c X.env); pure (ForInStep.yield ok) else pure (ForInStep.yield r)) (TP X pins σ Q) X.xe s
noncomputable def tNoIf : TT := fun _ H Q => Q true H
theorem pifs_nil {X : Cx} : PIfs X [] tNoIf := by
  intro pins s σ H Q I h
  exact wpAny_pure ⟨H, I, h⟩

section
variable {X : Cx} {pins : List (Addr × Obj)} {σ : St} {H : Hp} {s : Shared}
theorem closure_go (env : Env) : ∀ (names : List (Str × NameKind)) (acc : List (Str × Addr)), (∀ y ∈ names, y.2 = .free → ∃ c, env.cells.lookup y.1 = some c) → (∀ x c, acc.lookup x = some c → env.cells.lookup x = some c) →
    ∃ cl, (forIn names acc fun (x : Str × NameKind) (r : List (Str × Addr)) => (match x with | (name, kind) => if (kind == NameKind.free) = true then do let a ← cellOf env name; pure (ForInStep.yield ((name, a) :: r)) else pure (ForInStep.yield r) : Sem (ForInStep (List (Str × Addr))))) = pure cl ∧
      (∀ x c, cl.lookup x = some c → env.cells.lookup x = some c) ∧ (∀ x c, acc.lookup x = some c → ∃ c', cl.lookup x = some c') ∧ ∀ y ∈ names, y.2 = .free → ∃ c, cl.lookup y.1 = some c
  | [], acc, _, h2 => ⟨acc, rfl, h2, fun x c e => ⟨c, e⟩, fun y hy => by simp at hy⟩
  | (n, k) :: r, acc, h1, h2 => by
    rw [List.forIn_cons]
    by_cases hk : k = .free
    · subst hk
      obtain ⟨c, hc⟩ := h1 (n, .free) List.mem_cons_self rfl
      obtain ⟨cl, e1, e2, e3, e4⟩ := closure_go env r ((n, c) :: acc) (fun y hy => h1 y (List.mem_cons_of_mem _ hy)) (fun x c' e => by
        rw [List.lookup_cons] at e
        cases hx : x == n with
        | true =>
          rw [hx] at e
          have : x = n := by simpa using hx
          subst this
          cases e
          exact hc
        | false =>
          rw [hx] at e
          exact h2 x c' e)
      refine ⟨cl, ?_, e2, fun x c' e => ?_, fun y hy hf => ?_⟩
      · have hcell : cellOf env n = pure c := by simp only [cellOf, hc]
        simp only [beq_self_eq_true, if_true, hcell, pure_bind]
        exact e1
      · cases hx : x == n with
        | true => exact e3 x c (by rw [List.lookup_cons, hx])
        | false => exact e3 x c' (by rw [List.lookup_cons, hx]; exact e)
      · rcases List.mem_cons.mp hy with rfl | hy
        · exact e3 n c (by rw [List.lookup_cons]; simp)
        · exact e4 y hy hf
    · obtain ⟨cl, e1, e2, e3, e4⟩ := closure_go env r acc (fun y hy => h1 y (List.mem_cons_of_mem _ hy)) h2
      refine ⟨cl, ?_, e2, e3, fun y hy hf => ?_⟩
      · have hb : (k == NameKind.free) = false := by simpa using hk
        simp only [hb, Bool.false_eq_true, if_false, pure_bind]
        exact e1
      · rcases List.mem_cons.mp hy with rfl | hy
        · exact absurd hf hk
        · exact e4 y hy hf
theorem closure_of {env : Env} {scope : Scope} (h : ∀ y ∈ scope.names, y.2 = .free → ∃ c, env.cells.lookup y.1 = some c) :
    ∃ cl, closureFor scope env = pure cl ∧ (∀ x c, cl.lookup x = some c → env.cells.lookup x = some c) ∧ ∀ y ∈ scope.names, y.2 = .free → ∃ c, cl.lookup y.1 = some c := by
  obtain ⟨cl, e1, e2, _, e4⟩ := closure_go env scope.names [] h (fun x c e => by simp at e)
  refine ⟨cl, ?_, e2, e4⟩
  unfold closureFor
  show (forIn scope.names [] _ >>= fun r => pure r) = pure cl
  rw [show ∀ m : Sem (List (Str × Addr)), (m >>= fun r => pure r) = m from fun m => bind_pure m]
  exact e1
end
end L2

namespace L2
open PySem PySem.Spec PyProof.Rows

/-- a comprehension's block: its own names are put into a new map at C, the names around are cells -/
noncomputable def Cx.blk (X : Cx) (scope : Scope) (N : List Str) (cl : List (Str × Addr)) (C : Addr) (s : Shared) (H : Hp) (fp : List Addr) (pins : List (Addr × Obj)) : Cx where
  prog := X.prog
  w := X.w
  K := X.K
  mg := X.mg
  base := X.base
  A := X.A
  N := N
  s₀ := s
  H₀ := H
  env := compEnvC scope cl C X.env
  outer := X.stack
  stack := X.stack
  ex := fp
  fn := fun _ => false
  calm := X.calm
  pn := X.pn ++ pins
  xe := fun _ _ => False

/-- k names of its own, and those around in the slots at is -/
noncomputable def capsOf (k : Nat) (is : List Nat) (σ : St) : St := List.replicate k none ++ is.map fun i => (σ[i]?).join

theorem lookup_relabel {env : Env} : ∀ {names : List (Str × NameKind)} {x : Str} {k : NameKind},
    (names.map fun (n, k) => if (k == NameKind.free && env.scope.kind == .function && env.kindOf n == some .cell) then (n, NameKind.cell) else (n, k)).lookup x = some k → ∃ k0, (x, k0) ∈ names ∧ (k0 = k ∨ k0 = .free)
  | [], _, _, h => by simp at h
  | (n, k0) :: r, x, k, h => by
    rw [List.map_cons] at h
    have st : ∃ k1, (if (k0 == NameKind.free && env.scope.kind == .function && env.kindOf n == some .cell) = true then (n, NameKind.cell) else (n, k0)) = (n, k1) ∧ (k1 = k0 ∨ k0 = .free) := by
      split
      · rename_i hc
        refine ⟨_, rfl, .inr ?_⟩
        simp only [Bool.and_eq_true, beq_iff_eq] at hc
        exact hc.1.1
      · exact ⟨_, rfl, .inl rfl⟩
    obtain ⟨k1, e1, e2⟩ := st
    simp only at h
    rw [e1, List.lookup_cons] at h
    cases hx : x == n with
    | true =>
      rw [hx] at h
      have : x = n := by simpa using hx
      subst this
      cases h
      refine ⟨k0, List.mem_cons_self, ?_⟩
      rcases e2 with e2 | e2
      · exact .inl e2.symm
      · exact .inr e2
    | false =>
      rw [hx] at h
      obtain ⟨k2, m, z⟩ := lookup_relabel (env := env) (names := r) h
      exact ⟨k2, List.mem_cons_of_mem _ m, z⟩

/-- what a comprehension's scope must be, as it lies in the text -/
structure BlkScope (X : Cx) (scope : Scope) (own capn : List Str) (capI : List Nat) : Prop where
  kind : scope.kind = .function
  cell : ∀ y ∈ scope.names, y.2 ≠ .cell
  names : ∀ y ∈ scope.names, y.2 = .local → scope.names.lookup y.1 = some .local
  free : ∀ y ∈ scope.names, y.2 = .free → X.env.scope.names.lookup y.1 = some .cell
  caps : capI.map (fun i => X.N[i]?) = capn.map some
  capc : ∀ y ∈ capn, X.env.scope.names.lookup y = some .cell ∧ (relabel scope X.env).names.lookup y = some .cell

section
variable {X : Cx} {pins : List (Addr × Obj)} {σ : St} {H : Hp} {s : Shared}
/-- at the block's beginning -/
theorem blk_start {scope : Scope} {own capn : List Str} {capI : List Nat} {cl : List (Str × Addr)} {fp : List Addr} {h' : Heap} {t' : Nat} (B : BlkScope X scope own capn capI) (I : Inv X pins σ H s) (hf : ∀ b ∈ fp, FpOk X pins H b) (ho : ∀ b ∈ fp, ∃ o, s.heap.get? b = some o)
    (hcl : ∀ x c, cl.lookup x = some c → X.env.cells.lookup x = some c) (hcf : ∀ y ∈ scope.names, y.2 = .free → ∃ c, cl.lookup y.1 = some c)
    (hn : h'.Ns s.heap.objs.size (fun _ => none)) (hk : ∀ b o, s.heap.get? b = some o → h'.get? b = some o) :
    Inv (X.blk scope (own ++ capn) cl s.heap.objs.size s H fp pins) [] (capsOf own.length capI σ) H { s with heap := h', toks := t' } := by
  have lt : ∀ b o, s.heap.get? b = some o → b ≠ s.heap.objs.size := fun b o e => Nat.ne_of_lt (Heap.lt_size e)
  have hkind : ∀ x, ((relabel scope X.env).names.lookup x = some .cell ∨ (relabel scope X.env).names.lookup x = some .free) → ∃ c, cl.lookup x = some c := fun x hx => by
    have z : ∃ k, (k = .cell ∨ k = .free) ∧ (relabel scope X.env).names.lookup x = some k := by
      rcases hx with hx | hx
      · exact ⟨_, .inl rfl, hx⟩
      · exact ⟨_, .inr rfl, hx⟩
    obtain ⟨k, hk, hx⟩ := z
    obtain ⟨k0, m, z⟩ := lookup_relabel (env := X.env) hx
    have : k0 = .free := by
      rcases z with z | z
      · rcases hk with hk | hk
        · exact absurd (z.trans hk) (B.cell _ m)
        · exact z.trans hk
      · exact z
    exact hcf _ m this
  have nfs : ∀ b, b ≠ X.env.locals → b ∉ X.fs → b ∉ frs X.stack := fun b h1 h2 z => by
    rcases List.mem_cons.mp (I.stkSub b z) with z | z
    · exact h1 z
    · exact h2 z
  have cellAt : ∀ x c, cl.lookup x = some c → ∃ v o, s.heap.get? c = some o ∧ o.data = .cell v := fun x c e => by
    obtain ⟨v, o, ho, hd⟩ := I.cell x c (hcl x c e)
    exact ⟨v, o, ho, hd⟩
  have ok : (X.blk scope (own ++ capn) cl s.heap.objs.size s H fp pins).Ok := by
    refine ⟨I.ok.mod, B.kind, I.ok.glob, I.ok.blt, Nat.le_refl _, fun x y c e1 e2 => I.ok.inj x y c (hcl x c e1) (hcl y c e2), fun x hx => hkind x hx, (fun x c e => absurd (show false = true from e) (by decide)), I.ok.hd, I.ok.frames, .inl rfl, fun b hb => ?_, I.bs, Nat.le_trans I.ok.bsz I.sz, fun b o e hb => ?_, fun b hb => ?_, I.stack, fun b hb => I.stkFree b hb⟩
    · obtain ⟨o, e⟩ := ho b hb
      exact ⟨lt b o e, fun x c ec => (hf b hb).2.2.2.2.1 x c (hcl x c ec)⟩
    · rcases (hf b hb).2.2.2.1 with z | z
      · exact I.ok.noex b o e z
      · exact absurd (Nat.lt_of_lt_of_le (Heap.lt_size (I.ok.bs b o e).1) z) (Nat.lt_irrefl _)
    · exact nfs b (hf b hb).2.1 (hf b hb).2.2.1
  refine ⟨ok, rfl, I.bare, Un.kept hk, ⟨_, hn, fun i x v e1 e2 e3 => ?_⟩, fun x c e => ?_, I.hok.fresh (Nat.le_refl _), fun x c e => I.freeC x c (hcl x c e), fun p hp => ?_, I.hok.kept hk, ?_⟩
  · unfold capsOf at e2
    have hi : own.length ≤ i := by
      by_cases h : own.length ≤ i
      · exact h
      · rw [List.getElem?_append_left (by simpa using h), List.getElem?_replicate] at e2
        split at e2 <;> cases e2
    rw [List.getElem?_append_right (by simpa using hi), List.length_replicate, List.getElem?_map] at e2
    have e1' : (own ++ capn)[i]? = some x := e1
    rw [List.getElem?_append_right hi] at e1'
    cases hc : capI[i - own.length]? with
    | none => rw [hc] at e2; cases e2
    | some j =>
      rw [hc] at e2
      have e4 : (σ[j]?).join = some v := by simpa using e2
      have e5 : σ[j]? = some (some v) := by
        cases q : σ[j]? with
        | none => rw [q] at e4; cases e4
        | some o => rw [q] at e4; cases o with | none => cases e4 | some v' => cases e4; rfl
      have e6 : X.N[j]? = some x := by
        have z := congrArg (fun l => l[i - own.length]?) B.caps
        simp only [List.getElem?_map, hc, e1', Option.map_some] at z
        exact Option.some.inj z
      have cx := B.capc x (List.mem_of_getElem? e1')
      obtain ⟨m, hm, hl⟩ := I.loc
      obtain ⟨u, r, l⟩ := hl j x v e6 e5 (.inr (.inl cx.1))
      refine ⟨u, r, .inr ?_⟩
      obtain ⟨c', hc'⟩ := hkind x (.inl cx.2)
      have hc2 := hcl x c' hc'
      rcases l with ⟨k, _⟩ | ⟨_, c, ec, o, hoc, hdc⟩
      · have k' : X.env.scope.names.lookup x = some .local := k
        rw [cx.1] at k'
        cases k'
      · rw [hc2] at ec
        cases ec
        exact ⟨.inl cx.2, c', hc', o, hk _ _ hoc, hdc⟩
  · obtain ⟨v, o, hoc, hd⟩ := cellAt x c e
    exact ⟨v, o, hk _ _ hoc, hd⟩
  · have hp' : p ∈ X.pn ++ pins := by
      have z : p ∈ (X.pn ++ pins) ++ [] := hp
      simpa using z
    obtain ⟨e, n, ne, nf, d⟩ := I.pin p hp'
    exact ⟨hk _ _ e, n, lt _ _ e, nfs _ ne nf, d⟩
  · show (List.replicate own.length none ++ capI.map _).length = (own ++ capn).length
    have z := congrArg List.length B.caps
    simp only [List.length_map] at z
    simp [z]
end
end L2

namespace L2
open PySem PySem.Spec PyProof.Rows

/-- [elt for target in iter if ..]: W is the invariant, by the turn and a measure, over the block's names, the items so far, the heap -/
noncomputable def tLC (wi : TI) (k : Nat) (capI : List Nat) (g : TG) (tt : TT) (te : TE) : TE := fun σ H Q => wi σ H fun J H1 => ∀ D, H1 D = none → ∃ W : Nat → Nat → St → List V → Hp → Prop, (∃ m, W 0 m (capsOf k capI σ) [] (upd H1 D (.lst []))) ∧
  ∀ i m σ' acc H, W i m σ' acc H → (J.stop i H ∧ Q (.ref D) H) ∨ (J.go i H ∧ ∀ x H', J.yld i H x H' → g x σ' H' fun σ2 H2 => tt σ2 H2 fun b H3 =>
    if b = true then te σ2 H3 fun y H4 => H4 D = some (.lst acc) ∧ acc.length < sizeLine ∧ ∃ m', m' < m ∧ W (i + 1) m' σ2 (acc ++ [y]) (upd H4 D (.lst (acc ++ [y]))) else ∃ m', m' < m ∧ W (i + 1) m' σ2 acc H3)

section
variable {X : Cx} {pins : List (Addr × Obj)} {σ : St} {H : Hp} {s : Shared}
/-- behind the block -/
theorem blk_end {scope : Scope} {N : List Str} {cl : List (Str × Addr)} {fp : List Addr} {h' : Heap} {σ' : St} {H' : Hp} {s' : Shared} (I : Inv X pins σ H s) (hf : ∀ b ∈ fp, FpOk X pins H b)
    (J : Inv (X.blk scope N cl s.heap.objs.size s H fp pins) [] σ' H' s') (hs : Heap.SameBut s.heap.objs.size s'.heap h') : Inv X pins σ H' { s' with heap := h' } := by
  have B := J.base
  have ne : ∀ b o, s.heap.get? b = some o → b ≠ s.heap.objs.size := fun b o e => Nat.ne_of_lt (Heap.lt_size e)
  have u : Un (frs X.stack) fp H H' s.heap h' := ⟨fun b o e n h1 h2 => (hs.2 b (ne b o e)).trans (B.keep b o e n h1 h2), fun b o e n h1 h2 => by
      obtain ⟨sl, z⟩ := B.slot b o e n h1 h2
      exact ⟨sl, (hs.2 b (ne b o e)).trans z⟩, B.free, fun b o e h2 => by
      obtain ⟨o', z⟩ := B.there b o e h2
      exact ⟨o', (hs.2 b (ne b o e)).trans z⟩, B.tups, B.frzs, B.tbls⟩
  have hok : HOk X.prog X.w H' h' := fun b o e => by
    refine (J.hok b o e).stay (fun c v hc q => (hs.2 c ?_).trans q) (fun _ z => z) fun _ _ z => z
    have fr : H' s.heap.objs.size = none := J.free
    rintro rfl
    rcases hc with z | z
    · rw [← z, fr] at e
      cases e
    · rw [fr] at z
      cases z
  exact I.call' (s' := { s' with heap := h' }) (ch := fp) J.os u hok J.bare fun b hb => ⟨(hf b hb).2.2.2.1, (hf b hb).2.1, (hf b hb).2.2.2.2.1, (hf b hb).2.2.2.2.2⟩

variable {elt iter tg : Expr} {ifs : List Expr} {scope : Scope} {pos : Pos} {own capn : List Str} {capI : List Nat} {wi : TI} {g : TG} {tt : TT} {te : TE}
end
end L2

namespace L2
open PySem PySem.Spec PyProof.Rows

theorem ns_some_of {K : PySem.W.Frag} {h : Heap} {N : Addr} {mg : Str → Option Value} {n : Str} {v : Value} (X : K.In h) (G : h.Ns N mg) (e : PySem.W.nsIn K N n = some (some v)) : mg n = some v := by
  obtain ⟨o, es, ep, ho, hd, _, hf⟩ := G
  unfold PySem.W.nsIn at e
  split at e
  · rename_i c d es' n' sl q
    have z := X _ _ q
    rw [ho] at z
    cases z
    cases hd
    split at e
    · rename_i en he
      cases e
      rw [← hf]
      unfold nsFind findBy
      rw [← Array.find?_toList, he]
      rfl
    · split at e
      · cases e
      · cases e
  · cases e

/-- an own error class over Exception with an __init__ at fI that stores the one attribute a -/
structure StopC (K : PySem.W.Frag) (mg : Str → Option Value) (x : Str) (C fI : Addr) (a : Str) : Prop where
  bound : mg x = some (.ref C)
  obj : ∃ nm q N bs sn sub ab col dd k0 k1 k2 k3 k5, K.lookup C = some (excClassObj nm q C N bs bmE true sn sub ab col dd k0 k1 k2 k3 k5 "Exception.__new__") ∧ PySem.W.nsOkIn K N = true ∧ PySem.W.nsIn K N "__init__" = some (some (.ref fI)) ∧
    PySem.W.nsIn K N "__setattr__" = some none ∧ PySem.W.nsIn K N "__getattribute__" = some none ∧ PySem.W.nsIn K N "__getattr__" = some none ∧ PySem.W.nsIn K N a = some none
  fn : PySem.W.typeIn K (.ref fI) = some (.type "function")
  lk : typeLookup (.type "Exception") a = pure none

/-- a new exception; one with a dict -/
noncomputable def ExcN (e C : Addr) : HO := .ext fun h => ∃ vs, h.get? e = some { cls := .ref C, data := .fields vs } ∧ vs[1]? = some .none
noncomputable def ExcD (e C dx : Addr) : HO := .ext fun h => ∃ vs, h.get? e = some { cls := .ref C, dict := some dx, data := .fields vs } ∧ vs[1]? = some .none

section
variable {X : Cx} {x a : Str} {C fI : Addr} {o value : Expr} {pos pos' : Pos} {ta tv : TE} {mg : Str → Option Value}
/-- self.a = value in the __init__ -/
noncomputable def sXset (C : Addr) (a : Str) (ta tv : TE) : TS := fun D σ H => tv σ H fun y H1 => ta σ H1 fun x H2 => ∃ e, x = .ref e ∧ H2 e = some (ExcN e C) ∧ ∀ dx, H2 dx = none → D.nx σ (upd (upd H2 dx (.xd [(a, y)])) e (ExcD e C dx))
theorem ps_xset (S : StopC X.K mg x C fI a) (ha : PE X o ta) (hv : PE X value tv) (hs : swapsWith value (some (.Attribute o a pos')) pos.line X.env = pure false) :
    PS X (.Assign [.Attribute o a pos'] value pos) (sXset C a ta tv) := by
  intro pins s σ H D I h
  refine plainObj_wpAny_Assign_Attribute (thn (hv pins s σ H _ I h) fun u s1 ⟨y, H1, I1, ry, h1⟩ => thn (ha pins s1 σ H1 _ I1 h1) fun ov s2 ⟨xv, H2, I2, rx, e, ex, he, q⟩ => ?_) hs
  subst ex
  obtain rfl : ov = Value.ref e := rx
  obtain ⟨nm, qn, N, bs, sn, sub, ab, col, dd, k0, k1, k2, k3, k5, hl, hok, hi, n1, n2, n3, n4⟩ := S.obj
  obtain ⟨⟨vs, hoe, h1v⟩, _, _⟩ := I2.hok e _ he
  have KI := I2.kIn
  have fresh : H2 s2.heap.objs.size = none := I2.hok.fresh (Nat.le_refl _)
  have hq := q s2.heap.objs.size fresh
  have ne : e ≠ s2.heap.objs.size := Nat.ne_of_lt (Heap.lt_size hoe)
  have hn : s2.heap.Ns N (s2.heap.nsMap N) := .of_isNs (PySem.W.isNs_of_in KI hok)
  have m1 := PySem.W.nsMap_none_of_in KI hok n1
  have m4 := PySem.W.nsMap_none_of_in KI hok n4
  have hC := KI _ _ hl
  have fin : ∀ (h' : Heap) (tk : Nat), h'.get? e = some { cls := .ref C, dict := some s2.heap.objs.size, data := .fields vs } → h'.Ns1 s2.heap.objs.size (fun y' => if y' = a then some u else none) → (∀ b ob, b ≠ e → s2.heap.get? b = some ob → h'.get? b = some ob) →
      Inv X pins σ (upd (upd H2 s2.heap.objs.size (.xd [(a, y)])) e (ExcD e C s2.heap.objs.size)) { s2 with heap := h', toks := tk } := fun h' tk g1 g2 g3 => by
    have nd : ∀ b v, H2 b = some v → b ≠ s2.heap.objs.size := fun b v z w => by
      rw [w, fresh] at z
      cases z
    have nx : ∀ b v, H2 b = some v → (∀ ψ, v ≠ .ext ψ) → b ≠ e := fun b v z nu w => by
      rw [w, he] at z
      cases z
      exact nu _ rfl
    have n0 : ∀ b, H2 b = none → b ≠ e := fun b z w => by
      rw [w, he] at z
      cases z
    refine I2.un (Un.mk (fun b ob z n _ _ => g3 b ob (n0 b n) z) (fun b ob z n _ _ => ⟨ob.slots, g3 b ob (n0 b n) z⟩) (fun b ob z n _ => ?_) (fun b ob z _ => ?_) (fun b xs z => ?_) (fun b ob v z => ?_) fun b ps z => ?_) fun b v z => ?_
    · rw [upd_ne (n0 b n), upd_ne (Nat.ne_of_lt (Heap.lt_size z))]
      exact n
    · by_cases hb : b = e
      · subst hb
        exact ⟨_, g1⟩
      · exact ⟨ob, g3 b ob hb z⟩
    · rw [upd_ne (nx b _ z fun ψ w => by cases w), upd_ne (nd b _ z)]
      exact z
    · rw [upd_ne (nx b _ z fun ψ w => by cases w), upd_ne (nd b _ z)]
      exact z
    · exact ⟨#[], by rw [upd_ne (nx b _ z fun ψ w => by cases w), upd_ne (nd b _ z), z]; simp⟩
    · by_cases hb : b = e
      · subst hb
        rw [upd_same] at z
        cases z
        exact ⟨⟨vs, g1, h1v⟩, ⟨_, g1⟩, fun a1 a2 ⟨ws, w1, w2⟩ w => ⟨ws, w _ w1, w2⟩⟩
      · rw [upd_ne hb] at z
        by_cases hb2 : b = s2.heap.objs.size
        · subst hb2
          rw [upd_same] at z
          cases z
          refine ⟨_, g2, fun f => ?_⟩
          by_cases hf : f = a
          · subst hf
            show RelO (List.lookup f [(f, y)]) (if f = f then some u else none)
            rw [if_pos rfl, List.lookup_cons]
            simp only [beq_self_eq_true]
            exact ry
          · show RelO (List.lookup f [(a, y)]) (if f = a then some u else none)
            rw [if_neg hf, List.lookup_cons, show (f == a) = false by simpa using hf]
            exact True.intro
        · rw [upd_ne hb2] at z
          refine (I2.hok b v z).stay (fun c w hc y' => g3 c w ?_ y') (fun c w => ?_) fun c xs w => ?_
          · rcases hc with rfl | hc
            · exact hb
            · exact nx c _ hc fun ψ w => by cases w
          · rw [upd_ne (nx c _ w fun ψ w => by cases w), upd_ne (nd c _ w)]
            exact w
          · rw [upd_ne (nx c _ w fun ψ w => by cases w), upd_ne (nd c _ w)]
            exact w
  obtain ⟨hp, g, d, t, os⟩ := s2
  exact sav_exc (vs := vs) hC hn m1 m4 S.lk hoe rfl rfl rfl fun h' tk g1 g2 g3 => ⟨σ, _, fin h' tk g1 g2 g3, hq⟩

/-- stop.a, of an exception that was caught -/
noncomputable def tXfld (C : Addr) (a : Str) (ta : TE) : TE := fun σ H Q => ta σ H fun x H1 => ∃ e dx fs v, x = .ref e ∧ H1 e = some (ExcC e (.ref C) (some dx)) ∧ e ≠ dx ∧ H1 dx = some (.xd fs) ∧ fs.lookup a = some v ∧ Q v H1
theorem pe_xfld (S : StopC X.K mg x C fI a) (ha : PE X o ta) (hb : attributeBase o a X.env (eval o X.env) = eval o X.env) : PE X (.Attribute o a pos) (tXfld C a ta) := by
  intro pins s σ H Q I h
  refine attr_of hb (thn (ha pins s σ H _ I h) fun u s1 ⟨xv, H1, I1, rx, e, dx, fs, v, ex, he, ned, hdx, hl, q⟩ => ?_)
  subst ex
  obtain rfl : u = Value.ref e := rx
  obtain ⟨nm, qn, N, bs, sn, sub, ab, col, dd, k0, k1, k2, k3, k5, hlC, hok, hi, n1, n2, n3, n4⟩ := S.obj
  obtain ⟨⟨oe, vs, hoe, hcl, hde, hdt⟩, _, _⟩ := I1.hok e _ he
  obtain ⟨mA, hns, rel⟩ := I1.hok dx _ hdx
  have ra := rel a
  rw [hl] at ra
  obtain ⟨uv, huv, rv⟩ := RelO.some_of ra
  have KI := I1.kIn
  have hn : s1.heap.Ns N (s1.heap.nsMap N) := .of_isNs (PySem.W.isNs_of_in KI hok)
  have m2 := PySem.W.nsMap_none_of_in KI hok n2
  have m3 := PySem.W.nsMap_none_of_in KI hok n3
  have m4 := PySem.W.nsMap_none_of_in KI hok n4
  have hC := KI _ _ hlC
  have inst : s1.heap.Inst e C mA := ⟨oe, hoe, hcl, (fun c z => by rw [hdt] at z; cases z), .inr ⟨dx, hde, Ne.symm ned, hns⟩⟩
  have fin : EP X pins σ Q uv { s1 with toks := s1.toks + 1 } := ⟨v, H1, I1.tok _, rv, q⟩
  obtain ⟨hp, g, d, t, os⟩ := s1
  exact load_exc hC hn m2 m3 m4 S.lk inst huv (PySem.W.handedOut_of (handed_of rv)) fin
end
end L2

set_option maxHeartbeats 1000000
namespace L2
open PySem PySem.Spec PyProof.Rows

section
variable {M : Model} {A : Around} {E : Value → Shared → Prop} {env : Env}
variable {nm q : Str} {C N : Addr} {bs bm : List Value} {hdct : Bool} {sn : List Str} {sub : List Value} {ab : Bool} {col : Option Bool} {dd : Option Addr} {k0 k1 k2 k3 k5 : Option Value} {newId : String}
/-- raise of a made exception, whatever it bears -/
theorem raise_x {s : Shared} {x : Sem Value} {Q : Flow → Shared → Prop} (hbase : bm.contains (.type "BaseException") = true) (hh : A.handled = none)
    (h : wpAny M A x (fun v s1 => ∃ e oe, v = .ref e ∧ s1.heap.get? C = some (excClassObj nm q C N bs bm hdct sn sub ab col dd k0 k1 k2 k3 k5 newId) ∧ s1.heap.get? e = some oe ∧ oe.cls = .ref C ∧ (∃ vs, oe.data = .fields vs ∧ vs[1]? = some .none) ∧ E (.ref e) s1) E s) :
    wpAny M A (raiseStmt env (some x) none) Q E s := by
  have hcB : (Value.ref C :: bm).contains (.type "BaseException") = true := by rw [List.contains_cons, hbase, Bool.or_true]
  unfold raiseStmt
  refine wpAny_bind (thn h fun v s1 h1 => ?_)
  obtain ⟨e, oe, rfl, hC, he, hcl, ⟨vs, hdt, h1v⟩, hE⟩ := h1
  obtain ⟨hp, g, d, tk, os⟩ := s1
  repeat (first | (with_reducible refine wpAny_loadPart_at he ?_; first | rw [hcl] | rw [hdt]) | with_reducible refine wpAny_loadPart_at hC ?_ | (with_reducible refine wpAny_isSubtype_exc hC ?_; rw [hcB]) | wp_step)
  rw [hdt]
  refine wpAny_pure ?_
  rw [h1v]
  refine wpAny_pure ?_
  rw [if_neg (by decide)]
  exact wpAny_pure (wpAny_raiseNew_none hh hE)
end

/-- what a body wants of an exception that is on its way -/
noncomputable def Flies (X : Cx) (E : XK) : Prop := ∀ (pins : List (Addr × Obj)) (σ : St) (H : Hp) (s : Shared) (e : Addr) (oe : Obj) (vs : Array Value), Inv X pins σ H s → s.heap.get? e = some oe → oe.data = .fields vs → vs[1]? = some .none → X.s₀.heap.get? e = none → H e = none → E oe.cls oe.dict H → X.xe (.ref e) s
section
variable {P : Program} {w : World} {K : PySem.W.Frag} {mg : Str → Option Value} {base : Heap} {N : List Str} {qual : Str} {scope : Scope} {f : Addr} {cd : Value} {A : Around} {outer : List Env} {s₀ : Shared} {H₀ : Hp} {E : XK}
theorem flies1 : Flies (cx1 P w K mg base N qual scope f cd A outer s₀ H₀ E) E := fun pins σ H s e oe vs I he hd h1 hn hH q => xe_made I he hd h1 hn hH q
end

section
variable {X : Cx} {x a : Str} {C fI : Addr} {np cpos pos : Pos} {E : XK} {e₀ : Expr} {rest : List Expr} {t : TA} {k : Nat} {fd : FuncData} {ps : List Str} {sp : Sp}
/-- raise C(e, ..), C an own class with an __init__ -/
noncomputable def tRaiseI (C : Addr) (sp : Sp) (E : XK) (t : TA) : TS := fun _ σ H => t σ H fun vs H1 => vs.length ≤ sizeLine ∧ ∀ e, H1 e = none → sp (.ref e :: vs) (upd H1 e (ExcN e C)) (fun v H2 => v = .non ∧ ∃ dx, H2 e = some (ExcD e C dx) ∧ E (.ref C) (some dx) (drop H2 e)) E0
theorem ps_raiseI (S : StopC X.K X.mg x C fI a) (hg : Gl X x) (hc : X.calm = true) (hex : X.ex = []) (hx : Flies X E) (F : FnOk X.prog X.w X.K X.mg X.base (CX1 X.prog X.w) k fI fd ps sp) (hr : Room (k + 1) X.A) (hb : Binds X.K fd ps []) (ha : PA X (e₀ :: rest) t)
    (he : starEach (e₀ :: rest) X.env = (false, eval e₀ X.env) :: starEach rest X.env := by rfl) (hpl : (backTo cpos (starEach rest X.env)).any (·.1) = false := by rfl) (hd : (x == ("__debug__" : Str)) = false := by decide) :
    PS X (.Raise (some (.Call (.Name x np) (e₀ :: rest) [] cpos)) none pos) (tRaiseI C sp E t) := by
  intro pins s σ H D I h
  obtain ⟨nm, qn, N, bs, sn, sub, ab, col, dd, k0, k1, k2, k3, k5, hlC, hok, hi, n1, n2, n3, n4⟩ := S.obj
  have hplain : (backTo cpos (starEach (e₀ :: rest) X.env)).any (·.1) = false := by rw [he]; exact hpl
  rw [arm_exec_Raise]
  refine wpAny_bind (wpAny_standAt (raise_x (C := C) (nm := nm) (q := qn) (N := N) (bs := bs) (bm := bmE) (hdct := true) (sn := sn) (sub := sub) (ab := ab) (col := col) (dd := dd) (k0 := k0) (k1 := k1) (k2 := k2) (k3 := k3) (k5 := k5) (newId := "Exception.__new__") (by decide) (I.ok.hd hc) ?_))
  refine wpAny_bind (thn (wpAny_Call_ofName (ld_glob I hg S.bound ?_ hd)) fun v s3 h3 => wpAny_bind (wpAny_standAt (wpAny_pure h3)))
  unfold callWith
  have hp := ha cpos pins s σ H _ I h
  rw [he] at hp ⊢
  refine wpAny_bind (wpAny_holding (Calls.evalArgs_plain (thn hp fun us s2 ⟨vs, H1, I1, r1, z, hE⟩ => wpAny_bind (wpAny_standAt ?_))))
  have KI := I1.kIn
  have hC := KI _ _ hlC
  have hn : s2.heap.Ns N (s2.heap.nsMap N) := .of_isNs (PySem.W.isNs_of_in KI hok)
  have mi := ns_some_of KI hn hi
  obtain ⟨oI, hoI, hfc⟩ := Option.map_eq_some_iff.mp S.fn
  have hzu : us.length ≤ sizeLine := by rw [← r1.length]; exact z
  have hfold : (backTo cpos ((false, eval e₀ X.env) :: starEach rest X.env)).any (·.1) = false := by rw [he] at hplain; exact hplain
  have main : ∀ h' e, Heap.MadeExcOf s2.heap h' e (.ref C) us → wpAny (model X.prog X.w) (X.A.under (.builtin "type.__call__" ⟨.ref C :: us, []⟩)) (call (.ref fI) (.ref e :: us))
      (fun r s' => r = .none ∧ ∃ e' oe, Value.ref e = .ref e' ∧ s'.heap.get? C = some (excClassObj nm qn C N bs bmE true sn sub ab col dd k0 k1 k2 k3 k5 "Exception.__new__") ∧ s'.heap.get? e' = some oe ∧ oe.cls = .ref C ∧ (∃ vs, oe.data = .fields vs ∧ vs[1]? = some .none) ∧ X.xe (.ref e') s') X.xe { s2 with heap := h' } := fun h' e Md => by
    obtain ⟨tt, he', _, _⟩ := Md.there
    have I2 : Inv X pins σ H1 { s2 with heap := h' } := I1.kept (t' := s2.toks) Md.keeps
    have ap := I1.apart hex Md.new
    have hHe : H1 e = none := I1.hok.new Md.new
    have I3 : Inv X pins σ (upd H1 e (ExcN e C)) { s2 with heap := h' } := I2.track ap hHe ⟨_, he'⟩ ⟨_, he', rfl⟩ fun g1 g2 ⟨ws, w1, w2⟩ w => ⟨ws, w _ w1, w2⟩
    have hq := hE e hHe
    have r2 : Vals (V.ref e :: vs) (Value.ref e :: us) := .cons rfl r1
    have hl : (Value.ref e :: us ++ []).length = ps.length := by
      have l1 := r2.length
      rw [F.len _ _ _ _ hq] at l1
      simpa using l1.symm
    have hbb := hb { s2 with heap := h' } (Value.ref e :: us) I3.kIn hl
    rw [List.append_nil] at hbb
    refine wpAny_call (codeAny_mono (F.run _ X.stack _ _ ⟨Value.ref e :: us, []⟩ (Value.ref e :: us) _ _ E0 (hr.make C us []) (I3.env0.make C us []) hbb r2 hq) fun r s' hq' => ?_)
    cases r with
    | error ev =>
      obtain ⟨_, _, _, _, _, _, _, _, _, _, _, _, _, _, _, ff⟩ := hq'
      exact ff.elim
    | ok fl =>
      cases fl with
      | ret u =>
        obtain ⟨v, H', I4, rv, ev, dx, hD, hE'⟩ := I3.after hq'
        subst ev
        obtain ⟨⟨ws, w1, w2⟩, _, _⟩ := I4.hok e _ hD
        refine ⟨rv, e, _, rfl, I4.kIn _ _ hlC, w1, rfl, ⟨_, rfl, w2⟩, ?_⟩
        exact hx pins σ (drop H' e) s' e _ ws (I4.untrack hD) w1 rfl w2 ap.old drop_same hE'
      | next => exact False.elim hq'
      | brk => exact False.elim hq'
      | cont => exact False.elim hq'
  obtain ⟨hp2, g, d, tk, os⟩ := s2
  simp only [hfold]
  refine wpAny_bind (wpAny_keeperOf_exc hC ?_)
  refine wpAny_bind (wpAny_call_exc_init (hrest := hzu) PySem.F.excBase_Exception hC hn mi (KI _ _ hoI) hfc fun h' e Md => ?_)
  refine thn (main h' e Md) fun r s' ⟨e1, e2⟩ => ⟨e1, wpAny_bind (wpAny_holding (wpAny_point (wpAny_pure e2)))⟩
end
end L2

set_option maxHeartbeats 1000000
/-! dict(a list of pairs) -/
namespace L2
open PySem PySem.Spec PyProof.Rows

theorem entry_uloop : entryFor table "dict.update.loop" = some Builtin.«dict.update.loop» := entryFor_of_tree (by kernel_rfl)

end L2

set_option maxHeartbeats 1000000
namespace L2
open PySem PySem.Spec PyProof.Rows
section
variable {prog : Program} {w : World} {K : Type} [DecidableEq K] {knd : KeyKind prog w K} {A : Around}
/-- what pairs put into a dict, one after another -/
noncomputable def putAll (kvs : List (K × Value)) : List (K × Value) → List (K × Value)
  | [] => kvs
  | p :: r => putAll (stored kvs p.1 p.2) r

theorem len_stored (kvs : List (K × Value)) (k : K) (v : Value) : (stored kvs k v).length ≤ kvs.length + 1 := by
  unfold stored
  split
  · rw [List.length_map]; omega
  · rw [List.length_append, List.length_singleton]; omega


end
end L2

set_option maxHeartbeats 1000000
namespace L2
open PySem PySem.Spec PyProof.Rows

/-! ### dict(..) -/
noncomputable def putAllK (kvs : List (Key × V)) : List (Key × V) → List (Key × V)
  | [] => kvs
  | p :: r => putAllK (putK kvs p.1 p.2) r
theorem KV.putAll : ∀ {ps : List (Key × V)} {qs : List (Key × Value)} {kvs : List (Key × V)} {vs : List (Key × Value)}, KV ps qs → KV kvs vs → KV (putAllK kvs ps) (L2.putAll vs qs)
  | _, _, _, _, .nil, r => r
  | _, _, _, _, .cons h t, r => by
    rw [putAllK, L2.putAll, ← h.1]
    exact KV.putAll t (r.put _ h.2)
theorem len_putAllK : ∀ (ps kvs : List (Key × V)), (putAllK kvs ps).length ≤ kvs.length + ps.length
  | [], kvs => by simp [putAllK]
  | p :: r, kvs => by
    have h1 := len_putAllK r (putK kvs p.1 p.2)
    have h2 := length_putK kvs p.1 p.2
    rw [putAllK, List.length_cons]
    omega
section
variable {X : Cx}
theorem kV_key {k : Key} {v : Value} (r : RelV (kV k) v) : keyIs k v = true := by
  cases k with
  | inl i => obtain ⟨t, rfl⟩ := r; exact keyIs_int i t
  | inr x => obtain ⟨t, rfl⟩ := r; exact keyIs_str x t

/-- a dict that stands at the text's top -/
noncomputable def DkK (P : Program) (w : World) (K : PySem.W.Frag) (a : Addr) (kvs : List (Key × V)) : Prop := (a == sysModules) = false ∧ kvs.length ≤ sizeLine ∧ ∃ vs, KV kvs vs ∧ ∀ h : Heap, K.In h → h.DictOf (mixKind P w) a vs
/-- dict(d) -/
noncomputable def rDictD (P : Program) (w : World) (K : PySem.W.Frag) (xs : List V) (H : Hp) (Q : VK) : Prop := ∃ a kvs, xs = [.ref a] ∧ (Rd H a (.dK kvs) ∨ DkK P w K a kvs) ∧ ∀ d, H d = none → Q (.ref d) (upd H d (.dK kvs))
theorem call_dict_d : CallR X (.type "dict") (rDictD X.prog X.w X.K) := by
  intro pins s σ H xs us Q I r h
  obtain ⟨a, kvs, rfl, ha, q⟩ := h
  obtain ⟨u, rfl, ru⟩ := vals1 r
  cases ru
  rcases ha with ha | ⟨hS, hz, vs, rel, hd⟩
  · exact d_copyOf I ha fun p s' hp I' => ⟨.ref p, _, I', rfl, q p hp⟩
  · refine kt_call_dict hS (hd _ I.kIn) (by rw [← Paired.length rel]; exact hz) fun h' dd' hs => ?_
    have hf := I.hok.fresh (Nat.le_refl s.heap.objs.size)
    refine ⟨.ref s.heap.objs.size, upd H s.heap.objs.size (.dK kvs), I.laid (t' := s.toks) (fun b o e => (hs.2 b (Nat.ne_of_lt (Heap.lt_size e))).trans (Heap.get?_push_of_some _ e)) (Nat.le_refl _) (dk_new hz (beq_eq_false_iff_ne.mpr (Ne.symm (Nat.ne_of_lt I.big))) rel dd'), rfl, q _ hf⟩

/-! ### isinstance(x, T), T a built-in type -/

/-! ### // by a divisor of up to 64 bits -/
noncomputable def CDiv64 (i j : Int) : Prop := 0 < j ∧ j < 2 ^ 64
theorem op_fdiv64 : OpR X (binaryOp .FloorDiv) (rI CDiv64 fun i j => .int (i / j)) := opI fun i j _ _ s Q E hc q => by
  have e : i.fdiv j = i / j := Int.fdiv_eq_ediv_of_nonneg i (Int.le_of_lt hc.1)
  refine floordiv_int (by have := hc.1; omega) (by rw [e]; exact q) (.inl (PyProof.noPylong_of_log2 ?_))
  have h1 : j.natAbs < 2 ^ 64 := by have := hc.2; have := hc.1; omega
  have h2 : j.natAbs.log2 < 64 := (Nat.log2_lt (by have := hc.1; omega)).mpr h1
  omega
end

/-! ### data: a value without anything that may change -/
mutual
inductive Rp (K : PySem.W.Frag) (H : Hp) : V → PyData → Prop
  | non : Rp K H .non .none
  | bl (b : Bool) : Rp K H (.bl b) (.bool b)
  | int (i : Int) : Rp K H (.int i) (.int i)
  | str (x : Str) : Rp K H (.str x) (.str x)
  | tup {a : Addr} {xs : List V} {ds : List PyData} : SqT K H a xs → Rps K H xs ds → Rp K H (.ref a) (.tuple ds)
  | lst {a : Addr} {xs : List V} {ds : List PyData} : SqL K H a xs → Rps K H xs ds → Rp K H (.ref a) (.list ds)
inductive Rps (K : PySem.W.Frag) (H : Hp) : List V → List PyData → Prop
  | nil : Rps K H [] []
  | cons {x : V} {d : PyData} {xs : List V} {ds : List PyData} : Rp K H x d → Rps K H xs ds → Rps K H (x :: xs) (d :: ds)
end
theorem Same.sqT {K : PySem.W.Frag} {H H' : Hp} {a : Addr} {xs : List V} (e : Same H H') (h : SqT K H a xs) : SqT K H' a xs := by
  rcases h with (h | ⟨o, h⟩) | h
  · exact .inl (.inl (e _ _ h))
  · exact .inl (.inr ⟨o, e _ _ h⟩)
  · exact .inr h
mutual
theorem Rp.same {K : PySem.W.Frag} {H H' : Hp} (s : Same H H') : ∀ {v : V} {d : PyData}, Rp K H v d → Rp K H' v d
  | _, _, .non => .non
  | _, _, .bl b => .bl b
  | _, _, .int i => .int i
  | _, _, .str x => .str x
  | _, _, .tup h r => .tup (s.sqT h) (Rps.same s r)
  | _, _, .lst h r => .lst (s.seq h) (Rps.same s r)
theorem Rps.same {K : PySem.W.Frag} {H H' : Hp} (s : Same H H') : ∀ {v : List V} {d : List PyData}, Rps K H v d → Rps K H' v d
  | _, _, .nil => .nil
  | _, _, .cons h r => .cons (Rp.same s h) (Rps.same s r)
end
theorem Rps.get {K : PySem.W.Frag} {H : Hp} : ∀ {v : List V} {d : List PyData} {i : Nat} {x : PyData}, Rps K H v d → d[i]? = some x → ∃ y, v[i]? = some y ∧ Rp K H y x
  | _, _, _, _, .nil, e => by simp at e
  | _, _, 0, _, .cons h _, e => by simp at e; subst e; exact ⟨_, rfl, h⟩
  | _, _, i + 1, x, .cons _ r, e => by
    obtain ⟨y, h1, h2⟩ := Rps.get (i := i) (x := x) r (by simpa using e)
    exact ⟨y, by simpa using h1, h2⟩
section
variable {X : Cx} {pins : List (Addr × Obj)} {σ : St} {H : Hp} {s : Shared}
mutual
theorem Rp.reads (I : Inv X pins σ H s) : ∀ {v : V} {d : PyData} {u : Value}, Rp X.K H v d → RelV v u → ∃ as, Reads s.heap u d as
  | _, _, _, .non, r => by cases (show _ = Value.none from r); exact ⟨_, Reads.none⟩
  | _, _, _, .bl b, r => by cases (show _ = Value.bool b from r); exact ⟨_, Reads.bool b⟩
  | _, _, _, .int i, r => by obtain ⟨t, rfl⟩ := r; exact ⟨_, Reads.int i t⟩
  | _, _, _, .str x, r => by obtain ⟨t, rfl⟩ := r; exact ⟨_, Reads.str x t⟩
  | _, _, _, .tup h q, r => by
    cases (show _ = Value.ref _ from r)
    obtain ⟨its, rv, ⟨o, e, c, n, d⟩, _⟩ := I.tuple h
    obtain ⟨as, z⟩ := Rps.reads I q rv
    exact ⟨as, reads_tuple_at e c d (by simpa using z)⟩
  | _, _, _, .lst h q, r => by
    cases (show _ = Value.ref _ from r)
    obtain ⟨its, rv, ⟨o, n, e, c, _, d⟩, _⟩ := I.list h
    obtain ⟨as, z⟩ := Rps.reads I q rv
    exact ⟨_, reads_list_at e c d (by simpa using z)⟩
theorem Rps.reads (I : Inv X pins σ H s) : ∀ {v : List V} {d : List PyData} {u : List Value}, Rps X.K H v d → Vals v u → ∃ as, ReadsAll s.heap u d as
  | _, _, _, .nil, .nil => ⟨_, ReadsAll.nil⟩
  | _, _, _, .cons h q, .cons r t => by
    obtain ⟨as, a⟩ := Rp.reads I h r
    obtain ⟨bs, b⟩ := Rps.reads I q t
    exact ⟨_, ReadsAll.cons a b⟩
end
/-- == and != of data -/
noncomputable def rEqD (K : PySem.W.Frag) (neg : Bool) : R2 := fun x y H Q => ∃ d e, Rp K H x d ∧ Rp K H y e ∧ SeqAt.shaped d = true ∧ SeqAt.shaped e = true ∧ Q (.bl (if neg then !PyData.eqv d e else PyData.eqv d e)) H
theorem op_eqD (hu : X.A.units + 64 < cLine) : OpR X (compareOp .Eq) (rEqD X.K false) := by
  intro pins s σ H x y v u Q I rx ry h
  obtain ⟨d, e, hd, he, sd, se, q⟩ := h
  obtain ⟨as, ra⟩ := hd.reads I rx
  obtain ⟨bs, rb⟩ := he.reads I ry
  exact eq_dataH ra rb sd se hu ⟨.bl _, H, I, rfl, q⟩
end

/-! ### defs, methods, classes in one word each -/
structure Fn (P : Program) (w : World) (K : PySem.W.Frag) (mg : Str → Option Value) (base : Heap) (x : Str) (k : Nat) (ps : List Str) (sp : Sp) : Prop where
  ex : ∃ f fd, FnOk P w K mg base (CX1 P w) k f fd ps sp ∧ mg x = some (.ref f) ∧ PySem.W.keepIn K (.ref f) = true ∧ Binds K fd ps []
structure Mt (P : Program) (w : World) (K : PySem.W.Frag) (mg : Str → Option Value) (base : Heap) (C : Addr) (m : Str) (k : Nat) (ps : List Str) (sp : Sp) : Prop where
  ex : ∃ f fd, FnOk P w K mg base (CX1 P w) k f fd ps sp ∧ Meth K C m f ∧ Cls K C ∧ Binds K fd ps []
structure Mc (P : Program) (w : World) (K : PySem.W.Frag) (mg : Str → Option Value) (base : Heap) (x : Str) (C : Addr) (k : Nat) (ps : List Str) (sp : Sp) : Prop where
  ex : ∃ f fd, FnOk P w K mg base (CX1 P w) k f fd ps sp ∧ Mk K C f ∧ mg x = some (.ref C) ∧ Binds K fd ps []
section
variable {X : Cx} {k : Nat} {C : Addr} {ps : List Str} {sp : Sp} {E : XK} {x m : Str} {p pos apos : Pos} {e o : Expr} {es : List Expr} {ta : TE} {t : TA}
theorem pf_call (F : Fn X.prog X.w X.K X.mg X.base x k ps sp) (hr : Room k X.A) (hg : Gl X x) (hx : Passes (CX1 X.prog X.w) X E) (ha : PA X (e :: es) t) (hdb : (x == ("__debug__" : Str)) = false := by decide)
    (he : starEach (e :: es) X.env = (false, eval e X.env) :: starEach es X.env := by rfl) (hpl : (backTo pos (starEach es X.env)).any (·.1) = false := by rfl) : PE X (.Call (.Name x p) (e :: es) [] pos) (tCall sp [] E t) := by
  obtain ⟨f, fd, ok, mgf, kp, bi⟩ := F.ex
  exact pe_call ok hr hg mgf kp bi .nil hx ha hdb he hpl
theorem pf_meth {pl : Sem Bool} (F : Mt X.prog X.w X.K X.mg X.base C m k ps sp) (ho : PE X o ta) (hr : Room k X.A) (hx : Passes (CX1 X.prog X.w) X E) (ha : PA X (e :: es) t)
    (hst : starEach (e :: es) X.env = (false, eval e X.env) :: starEach es X.env := by rfl) (hpl : (backTo pos (starEach es X.env)).any (·.1) = false := by rfl)
    (ht : eval (.Call (.Attribute o m apos) (e :: es) [] pos) X.env = (do
      let ov ← eval o X.env
      standAt apos.atName
      let (f, first) ← holding [ov] (getMethod ov m pl)
      callWith pos f first (backTo pos (starEach (e :: es) X.env)) (backToKw pos (keywordEach [] X.env))) := by rfl) :
    PE X (.Call (.Attribute o m apos) (e :: es) [] pos) (tMeth C m sp [] E ta t) := by
  obtain ⟨f, fd, ok, mt, cl, bi⟩ := F.ex
  exact pe_meth (pl := pl) ho cl mt ok hr bi .nil hx ha hst hpl ht
theorem pf_meth0 {pl : Sem Bool} (F : Mt X.prog X.w X.K X.mg X.base C m k ps sp) (ho : PE X o ta) (hr : Room k X.A) (hx : Passes (CX1 X.prog X.w) X E)
    (ht : eval (.Call (.Attribute o m apos) [] [] pos) X.env = (do
      let ov ← eval o X.env
      standAt apos.atName
      let (f, first) ← holding [ov] (getMethod ov m pl)
      callWith pos f first (backTo pos (starEach [] X.env)) (backToKw pos (keywordEach [] X.env))) := by rfl) :
    PE X (.Call (.Attribute o m apos) [] [] pos) (tMeth C m sp [] E ta tNil) := by
  obtain ⟨f, fd, ok, mt, cl, bi⟩ := F.ex
  exact pe_meth0 (pl := pl) ho cl mt ok hr bi .nil hx ht
end
end L2

namespace L2
open PySem PySem.Spec PyProof.Rows
/-! ### arguments: the head's form is looked at, not what stands in it -/
section
variable {X : Cx} {es : List Expr} {env : Env}
end
end L2

namespace L2
open PySem PySem.Spec PyProof.Rows
section
variable {X : Cx} {elt iter tg : Expr} {ifs : List Expr} {scope : Scope} {pos : Pos} {own capn : List Str} {capI : List Nat} {wi : TI} {g : TG} {tt : TT} {te : TE}
/-- y = [elt for target in iter if ..] on one line: the store comes ahead of the block's end -/
theorem ps_setC {i : Nat} {y : Str} {py spos : Pos} (hN : X.N.Nodup) (hi : X.N[i]? = some y) (hy : Loc X.env.scope y) (hex : X.ex = []) (hc : X.calm = true) (B : BlkScope X scope own capn capI) (hit : PI X tg iter wi) (hg : ∀ cl C s H fp pins, PG (X.blk scope (own ++ capn) cl C s H fp pins) tg g)
    (ht : ∀ cl C s H fp pins, PIfs (X.blk scope (own ++ capn) cl C s H fp pins) ifs tt) (he : ∀ cl C s H fp pins, PE (X.blk scope (own ++ capn) cl C s H fp pins) elt te)
    (hs : ∀ x, foldedSetIterable iter X.env x = pure x := by intro _; rfl) (hsw : swapsWith (.ListComp elt [⟨tg, iter, ifs, 0⟩] scope pos) (some (.Name y py)) spos.line X.env = pure true := by rfl)
    (hf : X.fn y = true ∨ X.env.scope.names.lookup y = some .local := by first | exact .inl rfl | exact .inr rfl | assumption) :
    PS X (.Assign [.Name y py] (.ListComp elt [⟨tg, iter, ifs, 0⟩] scope pos) spos) (tAsg (tLC wi own.length capI g tt te) (gName i)) := by
  intro pins s σ H D0 I h
  rw [exec_Assign_Name_used _ _ _ _ hsw]
  refine wpAny_bind (wpAny_standAt (wpAny_bind ?_))
  show wpAny _ X.A (do let _ ← comprehension (.ListComp elt [⟨tg, iter, ifs, 0⟩] scope pos) scope X.env _ (newList []) false (eval iter X.env) (some (assign (.Name y py) X.env))) _ _ s
  obtain ⟨cl, hclos, hcl, hcf⟩ := closure_of (env := X.env) (scope := scope) (fun y hy hf => I.ok.has y.1 (.inl (B.free y hy hf)))
  refine wpAny_bind (wpAny_mono (wpAny_comprehension_free (use := some (assign (.Name y py) X.env)) (Q := fun _ s' => SP X pins D0 .next s') rfl hs hclos B.kind B.names (thn (hit pins s σ H _ I h) fun v s1 h1 => thn h1 fun itv s2 h2 => ?_)) (fun _ s' hq => wpAny_pure (wpAny_pure hq)) fun _ _ e => e)
  obtain ⟨it, fp, tn, J, H2, e, I2, T, st2, f2, hW⟩ := h2
  subst e
  obtain ⟨W, ⟨m0, w0⟩, turn⟩ := hW s2.heap.objs.size (I2.hok.fresh (Nat.le_refl _))
  refine wpAny_newObj_type (wpAny_newFunctionEnv B.cell (by intro y hy; simp at hy) (fun h4 hns hsb => ?_) B.kind)
  dsimp only at hns hsb ⊢
  have I3 : Inv X pins σ (upd H2 s2.heap.objs.size (.lst [])) { s2 with heap := s2.heap.push { cls := .type "list", dict := none, data := .seq ([] : List Value).toArray } } :=
    I2.laid (t' := s2.toks) (fun b u e => Heap.get?_push_of_some _ e) (Nat.le_refl _) ⟨Nat.zero_le _, [], 0, .nil, Heap.get?_push_size _ rfl⟩
  generalize hs3 : ({ s2 with heap := s2.heap.push { cls := .type "list", dict := none, data := .seq ([] : List Value).toArray } } : Shared) = s3 at I3
  have e3 : s2.heap.push { cls := .type "list", dict := none, data := .seq ([] : List Value).toArray } = s3.heap := by rw [← hs3]
  have ob2 : ∀ b ∈ fp, ∃ o, s2.heap.get? b = some o := fun b hb => let ⟨o, z, _⟩ := T.obj _ _ st2 b hb; ⟨o, z⟩
  have up3 : ∀ b o, s2.heap.get? b = some o → s3.heap.get? b = some o := fun b o z => by
    rw [← e3]
    exact Heap.get?_push_of_some _ z
  have f3 : ∀ b ∈ fp, FpOk X pins (upd H2 s2.heap.objs.size (.lst [])) b := fun b hb => by
    obtain ⟨o, z⟩ := ob2 b hb
    exact ⟨by rw [upd_ne (Nat.ne_of_lt (Heap.lt_size z))]; exact (f2 b hb).1, (f2 b hb).2⟩
  have ob3 : ∀ b ∈ fp, ∃ o, s3.heap.get? b = some o := fun b hb => let ⟨o, z⟩ := ob2 b hb; ⟨o, up3 b o z⟩
  rw [e3] at hns hsb ⊢
  have up4 : ∀ b o, s3.heap.get? b = some o → h4.get? b = some o := fun b o z => (hsb.2 b (Nat.ne_of_lt (Heap.lt_size z))).trans (Heap.get?_push_of_some _ z)
  have IB := blk_start (t' := s2.toks + ([] : List (Str × Value)).length) B I3 f3 ob3 hcl hcf hns up4
  have e4 : ({ s3 with heap := h4, toks := s2.toks + ([] : List (Str × Value)).length } : Shared) = { s2 with heap := h4, toks := s2.toks + ([] : List (Str × Value)).length } := by rw [← hs3]
  rw [e4] at IB
  have tn4 : tn 0 h4 := T.keep _ _ _ st2 fun b hb o z => up4 b o (up3 b o z)
  have fst : ∀ {H' : Hp}, (∀ b ∈ fp, H' b = none) → ∀ b ∈ fp, FpOk (X.blk scope (own ++ capn) cl s3.heap.objs.size s3 (upd H2 s2.heap.objs.size (.lst [])) fp pins) [] H' b := fun {H'} hn b hb => by
    obtain ⟨o, z⟩ := ob3 b hb
    refine ⟨hn b hb, Nat.ne_of_lt (Heap.lt_size z), fun y => ?_, .inl hb, fun x c ec => (f3 b hb).2.2.2.2.1 x c (hcl x c ec), fun p hp => (f3 b hb).2.2.2.2.2 p (by have y : p ∈ (X.pn ++ pins) ++ [] := hp; simpa using y)⟩
    rcases List.mem_cons.mp (I3.stkSub b y) with y | y
    · exact (f3 b hb).2.1 y
    · exact (f3 b hb).2.2.1 y
  have loop : codeAny (model X.prog X.w) X.A (.compLoop (.ListComp elt [⟨tg, iter, ifs, 0⟩] scope pos) 0 (.ref it) (.ref s2.heap.objs.size) (compEnvC scope cl s3.heap.objs.size X.env))
      (compPost (model X.prog X.w) X.A X.xe (some (assign (.Name y py) X.env)) (fun _ s' => SP X pins D0 .next s') (.ref s2.heap.objs.size) s3.heap.objs.size) { s2 with heap := h4, toks := s2.toks + ([] : List (Str × Value)).length } := by
    refine comp_loop (fun n s' => ∃ i σ' acc H', Inv (X.blk scope (own ++ capn) cl s3.heap.objs.size s3 (upd H2 s2.heap.objs.size (.lst [])) fp pins) [] σ' H' s' ∧ tn i s'.heap ∧ (∀ b ∈ fp, H' b = none) ∧ W i n σ' acc H') ?_ m0 ⟨0, _, [], _, IB, tn4, fun b hb => (f3 b hb).1, w0⟩
    rintro n s5 ⟨i, σ5, acc, H5, I5, st5, fr5, w5⟩
    have no : ∀ {α : Type} {t : Sem α} {Q : α → Shared → Prop} {E : Value → Shared → Prop} {s : Shared}, wpAny (model X.prog X.w) X.A t Q (fun _ _ => False) s → wpAny (model X.prog X.w) X.A t Q E s := fun z => wpAny_mono z (fun _ _ y => y) fun _ _ y => y.elim
    rcases turn i n σ5 acc H5 w5 with ⟨stop, qn⟩ | ⟨go, step⟩
    · refine no (thn (T.done (X.blk scope (own ++ capn) cl s3.heap.objs.size s3 (upd H2 s2.heap.objs.size (.lst [])) fp pins) rfl rfl rfl hc i [] s5 σ5 H5 _ I5 (fst fr5) st5 stop) fun r s6 ⟨hr, I6⟩ => ?_)
      subst hr
      obtain ⟨m, hm, _⟩ := id I6.loc
      have IX : Inv X pins σ H5 s6 := blk_end I3 f3 I6 (Heap.SameBut.refl _ _)
      have fC : ∀ b ∈ [s3.heap.objs.size], FpOk X pins H5 b := fun b hb => by
        obtain rfl : b = s3.heap.objs.size := by simpa using hb
        exact I3.fpOk (Nat.le_refl _) I6.free
      obtain ⟨oC, esC, epC, hoC, hdC, hrC⟩ := id hm
      have Ip := IX.pinned fC (fun b hb => by
        obtain rfl : b = s3.heap.objs.size := by simpa using hb
        exact ⟨oC, hoC, fun v z => by rw [hdC] at z; cases z⟩)
      have apC := I3.apart hex (Heap.get?_none_of_le (Nat.le_refl s3.heap.objs.size))
      have nfC := I3.nofs (Nat.le_refl s3.heap.objs.size)
      show wpAny _ X.A (assign (.Name y py) X.env (.ref s2.heap.objs.size)) _ _ _
      refine wpAny_assign_Name (store_ok Ip hN hi hy (v := .ref s2.heap.objs.size) rfl (fun s7 I7 => ?_) hf)
      have hC7 : s7.heap.get? s3.heap.objs.size = some oC := (I7.pin (s3.heap.objs.size, oC) (List.mem_append_right _ (List.mem_append_right _ (mem_pinsAt (by simp) hoC)))).1
      refine ⟨m, ⟨oC, esC, epC, hC7, hdC, hrC⟩, fun h' hs' => ⟨_, H5, ?_, qn⟩⟩
      exact I7.unpinned.recd apC I6.free nfC fun b o hb z => (hs'.2 b hb).trans z
    · refine no (thn (T.item (X.blk scope (own ++ capn) cl s3.heap.objs.size s3 (upd H2 s2.heap.objs.size (.lst [])) fp pins) rfl rfl rfl hc i [] s5 σ5 H5 _ I5 (fst fr5) st5 go) fun r s6 ⟨u, hr, h6⟩ => ?_)
      subst hr
      refine no (thn h6 fun _ s7 ⟨x, H7, I7, r7, y7, st7, fr7⟩ => ?_)
      have I7' := I7.pinned (fst fr7) (T.obj _ _ st7)
      have kp : ∀ {σ8 : St} {H8 : Hp} {s8 : Shared}, Inv (X.blk scope (own ++ capn) cl s3.heap.objs.size s3 (upd H2 s2.heap.objs.size (.lst [])) fp pins) ([] ++ pinsAt fp s7.heap) σ8 H8 s8 → tn (i + 1) s8.heap ∧ ∀ b ∈ fp, H8 b = none := fun {σ8 H8 s8} I8 => by
        refine ⟨T.keep _ _ _ st7 fun b hb o z => (I8.pin (b, o) (List.mem_append_right _ (List.mem_append_right _ (mem_pinsAt hb z)))).1, fun b hb => ?_⟩
        obtain ⟨o, z, d⟩ := T.obj _ _ st7 b hb
        exact (I8.pin (b, o) (List.mem_append_right _ (List.mem_append_right _ (mem_pinsAt hb z)))).2.1
      refine no (thn (hg cl s3.heap.objs.size s3 _ fp pins _ s7 σ5 H7 x u _ I7' r7 (step x H7 y7)) fun _ s8 ⟨σ8, H8, I8, q8⟩ => ?_)
      refine no (thn (ht cl s3.heap.objs.size s3 _ fp pins _ s8 σ8 H8 _ I8 q8) fun b s9 ⟨H9, I9, q9⟩ => ?_)
      cases b with
      | false =>
        obtain ⟨m', hm, w9⟩ := q9
        exact ⟨m', hm, i + 1, σ8, acc, H9, I9.unpinned, (kp I9).1, (kp I9).2, w9⟩
      | true =>
        refine no (thn (he cl s3.heap.objs.size s3 _ fp pins _ s9 σ8 H9 _ I9 q9) fun y s10 ⟨yv, H10, I10, r10, hD, hz, m', hm, w10⟩ => ?_)
        refine no (thn (mt_append _ s10 σ8 H10 (.ref s2.heap.objs.size) [yv] (.ref s2.heap.objs.size) [y] (fun v H11 => v = .non ∧ H11 = upd H10 s2.heap.objs.size (.lst (acc ++ [yv]))) I10 rfl (.cons r10 .nil) ⟨_, acc, yv, rfl, rfl, hD, hz, rfl, rfl⟩) fun _ s11 ⟨_, H11, I11, _, _, e11⟩ => ?_)
        subst e11
        exact ⟨m', hm, i + 1, σ8, acc ++ [yv], _, I11.unpinned, (kp I11).1, (kp I11).2, w10⟩
  exact codeAny_compStart_list loop (T.self _ 0 _ _ _ tn4 loop)
end
end L2

namespace L2
open PySem PySem.Spec PyProof.Rows
section
variable {X : Cx}
end
end L2

set_option maxHeartbeats 1000000
namespace L2
open PySem PySem.Spec PyProof.Rows
section
variable {prog : Program} {w : World} {A : Around} {E : Value → Shared → Prop} {s : Shared}
theorem wpAny_loadIfAlive {M : Model} {a : Addr} {Q : Option Obj → Shared → Prop} (h : Q (s.heap.get? a) s) : wpAny M A (loadIfAlive a) Q E s := fun Γ p hΓ => h
/-- a zip that has handed out the tuple T, which is still there -/
noncomputable abbrev IsZip2 (h : Heap) (z TI TO T : Addr) (b : Bool) : Prop :=
  h.get? z = some { cls := .type "zip", dict := none, data := .fields #[rawInt T, .bool b, .bool false, .ref TI, .ref TO], slots := #[] }
theorem free_no {z TI TO T : Addr} {b : Bool} {oT : Obj} {Q : Bool → Shared → Prop} (hz : IsZip2 s.heap z TI TO T b) (hT : s.heap.get? T = some oT)
    (h : ∀ h', IsZip2 h' z TI TO T true → Heap.SameBut z s.heap h' → Q false { s with heap := h' }) : wpAny (model prog w) A (Builtin.SmallTypes.ownedTupleIsFree (.ref z)) Q E s := by
  unfold Builtin.SmallTypes.ownedTupleIsFree
  refine wpAny_bind (wpAny_field hz rfl (x := rawInt T) rfl ?_)
  show wpAny _ _ (loadIfAlive ((T : Int).toNat) >>= _) _ _ _
  refine wpAny_bind (wpAny_loadIfAlive ?_)
  rw [Int.toNat_natCast, hT]
  cases b with
  | false =>
    show wpAny _ _ (field (.ref z) 1 >>= _) _ _ _
    refine wpAny_bind (wpAny_field hz rfl (x := .bool false) rfl ?_)
    rw [if_pos (by decide)]
    refine wpAny_bind (wpAny_setField_rec hz (by simp) fun h₁ hz₁ hs₁ => wpAny_pure ?_)
    exact h h₁ hz₁ hs₁
  | true =>
    show wpAny _ _ (field (.ref z) 1 >>= _) _ _ _
    refine wpAny_bind (wpAny_field hz rfl (x := .bool true) rfl ?_)
    rw [if_neg (by decide)]
    exact wpAny_pure (h s.heap hz (Heap.SameBut.refl _ _))
theorem zip2_item {z TI TO T i1 i2 l1 l2 : Addr} {k1 k2 : Nat} {xs ys : Array Value} {x y : Value} {b : Bool} {oT : Obj} {Q : Value → Shared → Prop} (D : ZipApart z TI TO i1 i2 l1 l2)
    (hz : IsZip2 s.heap z TI TO T b) (hT : s.heap.get? T = some oT) (hTI : IsPair s.heap TI (.ref i1) (.ref i2))
    (h1 : s.heap.IsListIter i1 l1 k1) (h2 : s.heap.IsListIter i2 l2 k2) (hl1 : s.heap.IsList l1 xs) (hl2 : s.heap.IsList l2 ys) (hx : xs[k1]? = some x) (hy : ys[k2]? = some y)
    (hQ : ∀ h', IsZip2 h' z TI TO T true → h'.IsListIter i1 l1 (k1 + 1) → h'.IsListIter i2 l2 (k2 + 1) → IsPair h' s.heap.objs.size x y → h'.objs.size = s.heap.objs.size + 1 →
      (∀ c o, c ≠ z → c ≠ i1 → c ≠ i2 → s.heap.get? c = some o → h'.get? c = some o) → Q (.ref s.heap.objs.size) { s with heap := h' }) :
    wpAny (model prog w) A (Builtin.«zip.__next__» ⟨[.ref z], []⟩) (fun fin s' => ∃ v, fin = .done (.ret v) ∧ Q v s') E s := by
  show wpAny _ _ (field (.ref z) 2 >>= _) _ _ _
  refine wpAny_bind (wpAny_field hz rfl (x := .bool false) rfl ?_)
  show wpAny _ _ (field (.ref z) 3 >>= _) _ _ _
  refine wpAny_bind (wpAny_field hz rfl (x := .ref TI) rfl ?_)
  refine wpAny_bind (wpAny_seqItems hTI rfl ?_)
  show wpAny _ _ (Builtin.SmallTypes.ownedTupleIsFree (.ref z) >>= _) _ _ _
  refine wpAny_bind (free_no hz hT fun h₁ hz₁ hs₁ => ?_)
  rw [if_neg (by decide)]
  refine wpAny_bind ?_
  simp only [List.forIn_toArray, List.forIn_cons, List.forIn_nil]
  refine wpAny_bind (wpAny_bind (wpAny_holding ?_))
  show wpAny _ _ (Builtin.SmallTypes.nextOf (.ref i1) >>= _) _ _ _
  refine wpAny_bind (wpAny_nextOf_list_item (h1.extBut hs₁.extBut D.i1z) (hl1.extBut hs₁.extBut D.l1z) hx fun h₂ h1₂ hs₂ => wpAny_pure ?_)
  refine wpAny_pure ?_
  refine wpAny_bind (wpAny_bind (wpAny_holding ?_))
  show wpAny _ _ (Builtin.SmallTypes.nextOf (.ref i2) >>= _) _ _ _
  refine wpAny_bind (wpAny_nextOf_list_item ((h2.extBut hs₁.extBut D.i2z).extBut hs₂.extBut D.i12.symm) ((hl2.extBut hs₁.extBut D.l2z).extBut hs₂.extBut D.l2i1) hy fun h₃ h2₃ hs₃ => wpAny_pure ?_)
  refine wpAny_pure (wpAny_pure ?_)
  refine wpAny_bind (wpAny_newTuple (hsz := (by show 2 ≤ sizeLine; decide)) ?_)
  have hsz : h₃.objs.size = s.heap.objs.size := by rw [hs₃.1, hs₂.1, hs₁.1]
  refine wpAny_pure ⟨_, rfl, ?_⟩
  have up : ∀ c o, c ≠ z → c ≠ i1 → c ≠ i2 → s.heap.get? c = some o → (h₃.push { cls := .type "tuple", data := .seq #[x, y] }).get? c = some o := fun c o c1 c2 c3 e => Heap.get?_push_of_some _ (hs₃.extBut _ _ c3 (hs₂.extBut _ _ c2 (hs₁.extBut _ _ c1 e)))
  show Q (.ref h₃.objs.size) { s with heap := h₃.push { cls := .type "tuple", data := .seq #[x, y] } }
  rw [hsz]
  refine hQ _ (Heap.get?_push_of_some _ (hs₃.extBut _ _ D.i2z.symm (hs₂.extBut _ _ D.i1z.symm hz₁))) ((h1₂.extBut hs₃.extBut D.i12).at fun o e => Heap.get?_push_of_some _ e) (h2₃.at fun o e => Heap.get?_push_of_some _ e) ?_ (by rw [Heap.size_push, hsz]) up
  rw [← hsz]
  exact Heap.get?_push_size _ rfl
theorem zip2_end {z TI TO T i1 i2 l1 l2 : Addr} {k1 k2 : Nat} {xs ys : Array Value} {b : Bool} {oT : Obj} {Q : Fin → Shared → Prop} (hh : A.handled = none) (D : ZipApart z TI TO i1 i2 l1 l2)
    (hz : IsZip2 s.heap z TI TO T b) (hT : s.heap.get? T = some oT) (hTI : IsPair s.heap TI (.ref i1) (.ref i2))
    (h1 : s.heap.IsListIter i1 l1 k1) (h2 : s.heap.IsListIter i2 l2 k2) (hl1 : s.heap.IsList l1 xs) (hl2 : s.heap.IsList l2 ys) (hend : xs[k1]? = none ∨ ys[k2]? = none)
    (hE : ∀ h' e, (∀ c o, c ≠ z → c ≠ i1 → c ≠ i2 → s.heap.get? c = some o → h'.get? c = some o) → (∃ o, h'.get? e = some o ∧ o.cls = .type "StopIteration") → E (.ref e) { s with heap := h' }) :
    wpAny (model prog w) A (Builtin.«zip.__next__» ⟨[.ref z], []⟩) Q E s := by
  show wpAny _ _ (field (.ref z) 2 >>= _) _ _ _
  refine wpAny_bind (wpAny_field hz rfl (x := .bool false) rfl ?_)
  show wpAny _ _ (field (.ref z) 3 >>= _) _ _ _
  refine wpAny_bind (wpAny_field hz rfl (x := .ref TI) rfl ?_)
  refine wpAny_bind (wpAny_seqItems hTI rfl ?_)
  show wpAny _ _ (Builtin.SmallTypes.ownedTupleIsFree (.ref z) >>= _) _ _ _
  refine wpAny_bind (free_no hz hT fun h₁ hz₁ hs₁ => ?_)
  rw [if_neg (by decide)]
  refine wpAny_bind ?_
  simp only [List.forIn_toArray, List.forIn_cons, List.forIn_nil]
  refine wpAny_bind (wpAny_bind (wpAny_holding ?_))
  show wpAny _ _ (Builtin.SmallTypes.nextOf (.ref i1) >>= _) _ _ _
  cases hx : xs[k1]? with
  | none =>
    refine wpAny_bind (wpAny_nextOf_list_end hh (h1.extBut hs₁.extBut D.i1z) (hl1.extBut hs₁.extBut D.l1z) hx fun h₂ e hs₂ he => ?_)
    exact hE h₂ e (fun c o c1 c2 c3 x => hs₂ _ _ c2 (hs₁.extBut _ _ c1 x)) he
  | some x =>
    have hy : ys[k2]? = none := by rcases hend with h | h; rw [hx] at h; cases h; exact h
    refine wpAny_bind (wpAny_nextOf_list_item (h1.extBut hs₁.extBut D.i1z) (hl1.extBut hs₁.extBut D.l1z) hx fun h₂ h1₂ hs₂ => wpAny_pure ?_)
    refine wpAny_pure ?_
    refine wpAny_bind (wpAny_bind (wpAny_holding ?_))
    show wpAny _ _ (Builtin.SmallTypes.nextOf (.ref i2) >>= _) _ _ _
    refine wpAny_bind (wpAny_nextOf_list_end hh ((h2.extBut hs₁.extBut D.i2z).extBut hs₂.extBut D.i12.symm) ((hl2.extBut hs₁.extBut D.l2z).extBut hs₂.extBut D.l2i1) hy fun h₃ e hs₃ he => ?_)
    exact hE h₃ e (fun c o c1 c2 c3 x => hs₃ _ _ c3 (hs₂.extBut _ _ c2 (hs₁.extBut _ _ c1 x))) he
theorem next_zip2_item {z TI TO T i1 i2 l1 l2 : Addr} {k1 k2 : Nat} {xs ys : Array Value} {x y : Value} {b : Bool} {oT : Obj} {Q : Option Value → Shared → Prop} (D : ZipApart z TI TO i1 i2 l1 l2)
    (hz : IsZip2 s.heap z TI TO T b) (hT : s.heap.get? T = some oT) (hTI : IsPair s.heap TI (.ref i1) (.ref i2))
    (h1 : s.heap.IsListIter i1 l1 k1) (h2 : s.heap.IsListIter i2 l2 k2) (hl1 : s.heap.IsList l1 xs) (hl2 : s.heap.IsList l2 ys) (hx : xs[k1]? = some x) (hy : ys[k2]? = some y)
    (hQ : ∀ h', IsZip2 h' z TI TO T true → h'.IsListIter i1 l1 (k1 + 1) → h'.IsListIter i2 l2 (k2 + 1) → IsPair h' s.heap.objs.size x y → h'.objs.size = s.heap.objs.size + 1 →
      (∀ c o, c ≠ z → c ≠ i1 → c ≠ i2 → s.heap.get? c = some o → h'.get? c = some o) → Q (some (.ref s.heap.objs.size)) { s with heap := h' }) :
    wpAny (model prog w) A (pyNext (.ref z)) Q E s := by
  have hTy : s.TypeIs (.ref z) "zip" := ⟨_, hz, rfl⟩
  unfold pyNext
  exact wpAny_bind (wpAny_attempt (wpAny_callSpecial?_slot (name := Str.ofString "__next__") hTy F.slot_zip_next
    (wpAny_call_entry F.slot_zip_next hTy F.entry_zip_next
      (zip2_item D hz hT hTI h1 h2 hl1 hl2 hx hy fun h' a1 a3 a4 a5 a6 a7 => wpAny_pure (hQ h' a1 a3 a4 a5 a6 a7)) (F.args_zip_next_1 _))))
theorem next_zip2_end {z TI TO T i1 i2 l1 l2 : Addr} {k1 k2 : Nat} {xs ys : Array Value} {b : Bool} {oT : Obj} {Q : Option Value → Shared → Prop} (hh : A.handled = none) (D : ZipApart z TI TO i1 i2 l1 l2)
    (hz : IsZip2 s.heap z TI TO T b) (hT : s.heap.get? T = some oT) (hTI : IsPair s.heap TI (.ref i1) (.ref i2))
    (h1 : s.heap.IsListIter i1 l1 k1) (h2 : s.heap.IsListIter i2 l2 k2) (hl1 : s.heap.IsList l1 xs) (hl2 : s.heap.IsList l2 ys) (hend : xs[k1]? = none ∨ ys[k2]? = none)
    (hQ : ∀ h', (∀ c o, c ≠ z → c ≠ i1 → c ≠ i2 → s.heap.get? c = some o → h'.get? c = some o) → Q none { s with heap := h' }) : wpAny (model prog w) A (pyNext (.ref z)) Q E s := by
  have hTy : s.TypeIs (.ref z) "zip" := ⟨_, hz, rfl⟩
  unfold pyNext
  refine wpAny_bind (wpAny_attempt (wpAny_callSpecial?_slot (name := Str.ofString "__next__") hTy F.slot_zip_next
    (wpAny_call_entry F.slot_zip_next hTy F.entry_zip_next (zip2_end hh D hz hT hTI h1 h2 hl1 hl2 hend fun h' e hk he => ?_) (F.args_zip_next_1 _))))
  obtain ⟨o, ho, hc⟩ := he
  refine wpAny_bind (wpAny_isInstance (T := "StopIteration") (b := true) ⟨o, ho, hc⟩ isSubtype_stop ?_)
  exact wpAny_pure (hQ _ hk)
end
section
variable {prog : Program} {w : World} {K : Type} [DecidableEq K] {knd : KeyKind prog w K} {A : Around}
structure ZipOff (d z TI T i1 i2 l1 l2 : Addr) : Prop where
  zd : z ≠ d
  TId : TI ≠ d
  i1d : i1 ≠ d
  i2d : i2 ≠ d
  l1d : l1 ≠ d
  l2d : l2 ≠ d
  Td : T ≠ d
  Tz : T ≠ z
  Ti1 : T ≠ i1
  Ti2 : T ≠ i2
theorem zip_loop {d z TI TO T i1 i2 l1 l2 : Addr} {xs ys : Array Value} (hA : A.handled = none) (D : ZipApart z TI TO i1 i2 l1 l2) (O : ZipOff d z TI T i1 i2 l1 l2) : ∀ (ps : List (K × Value)) (i : Nat) (s : Shared) (t : Tok) (kvs : List (K × Value)) (b : Bool) (R : Result → Shared → Prop),
    IsZip2 s.heap z TI TO T b → (∃ oT, s.heap.get? T = some oT) → IsPair s.heap TI (.ref i1) (.ref i2) → s.heap.IsListIter i1 l1 i → s.heap.IsListIter i2 l2 i → s.heap.IsList l1 xs → s.heap.IsList l2 ys →
    (∀ (j : Nat) (p : K × Value), ps[j]? = some p → ∃ key : Value, xs[i + j]? = some key ∧ ys[i + j]? = some p.2 ∧ knd.is p.1 key = true) → (xs[i + ps.length]? = none ∨ ys[i + ps.length]? = none) →
    s.heap.DictOf knd d kvs → kvs.length + ps.length ≤ sizeLine →
    (∀ h' tk, h'.DictOf knd d (putAll kvs ps) → (∀ b o, b ≠ d → b ≠ z → b ≠ i1 → b ≠ i2 → s.heap.get? b = some o → h'.get? b = some o) → R (.ok (.ret .none)) { s with heap := h', toks := tk }) →
    codeAny (model prog w) A (.builtin "dict.update.loop" ⟨[.ref d, .ref z, .int i t, .none], []⟩) R s
  | [], i, s, t, kvs, b, R, hz, ⟨oT, hT⟩, hTI, h1, h2, hl1, hl2, hp, hend, hd, hsz, hR => by
    refine codeAny_builtin entry_uloop ?_
    unfold Builtin.«dict.update.loop»
    dsimp only
    refine wpAny_bind (next_zip2_end hA D hz hT hTI h1 h2 hl1 hl2 hend fun h' eb => ?_)
    show wpAny _ _ (Builtin.Dict.addKeywords d [] >>= _) _ _ _
    refine wpAny_bind (wpAny_pure (wpAny_pure ?_))
    exact hR h' s.toks (let ⟨o, es, ep, ho, r⟩ := hd; ⟨o, es, ep, eb d o (Ne.symm O.zd) (Ne.symm O.i1d) (Ne.symm O.i2d) ho, r⟩) fun b o _ b1 b2 b3 e => eb b o b1 b2 b3 e
  | p :: ps, i, s, t, kvs, b, R, hz, ⟨oT, hT⟩, hTI, h1, h2, hl1, hl2, hp, hend, hd, hsz, hR => by
    obtain ⟨key, hx, hy, hk⟩ := hp 0 p rfl
    refine codeAny_builtin entry_uloop ?_
    unfold Builtin.«dict.update.loop»
    dsimp only
    refine wpAny_bind (next_zip2_item D hz hT hTI h1 h2 hl1 hl2 hx hy fun h' a1 a3 a4 a5 a6 a7 => ?_)
    dsimp only
    refine wpAny_bind (wpAny_holding (wpAny_bind ?_))
    have hTy : ({ s with heap := h' } : Shared).TypeIs (.ref s.heap.objs.size) "tuple" := ⟨_, a5, rfl⟩
    refine wpAny_tryCatch (wpAny_bind (wpAny_typeOf hTy ?_))
    rw [if_pos (by decide)]
    refine wpAny_bind (wpAny_bind (wpAny_load a5 (wpAny_pure ?_)))
    refine wpAny_pure ?_
    show wpAny _ _ (holding [key, p.2] (dictSet d key p.2)) _ _ _
    have hd' : h'.DictOf knd d kvs := let ⟨o, es, ep, ho, r⟩ := hd; ⟨o, es, ep, a7 d o (Ne.symm O.zd) (Ne.symm O.i1d) (Ne.symm O.i2d) ho, r⟩
    refine wpAny_holding (wpAny_dictSet_pairs (s := { s with heap := h' }) hk hd' (fun h2 hd2 hs2 => ?_) (by rw [List.length_cons] at hsz; omega))
    refine wpAny_pure ⟨Code.quiet_builtin _ (by decide +kernel), ?_⟩
    have keep : ∀ c o, c ≠ d → c ≠ z → c ≠ i1 → c ≠ i2 → s.heap.get? c = some o → h2.get? c = some o := fun c o c1 c2 c3 c4 e => (hs2.2 c c1).trans (a7 c o c2 c3 c4 e)
    have ls := len_stored kvs p.1 p.2
    rw [List.length_cons] at hsz hend
    refine zip_loop (xs := xs) (ys := ys) hA D O ps (i + 1) { s with heap := h2, toks := s.toks + 1 } _ (stored kvs p.1 p.2) true R ?_ ⟨oT, keep T oT O.Td O.Tz O.Ti1 O.Ti2 hT⟩ ?_ ?_ ?_ ?_ ?_ (fun j q e => ?_) ?_ hd2 (by omega) fun h3 tk hd3 k3 => hR h3 tk hd3 fun c o c1 c2 c3 c4 e => k3 c o c1 c2 c3 c4 (keep c o c1 c2 c3 c4 e)
    · exact (hs2.2 z O.zd).trans a1
    · exact keep TI _ O.TId D.TIz D.TIi1 D.TIi2 hTI
    · exact a3.at fun o e => (hs2.2 i1 O.i1d).trans e
    · exact a4.at fun o e => (hs2.2 i2 O.i2d).trans e
    · obtain ⟨o, ho, r⟩ := hl1
      exact ⟨o, keep l1 o O.l1d D.l1z D.l1i1 D.l1i2 ho, r⟩
    · obtain ⟨o, ho, r⟩ := hl2
      exact ⟨o, keep l2 o O.l2d D.l2z D.l2i1 D.l2i2 ho, r⟩
    · obtain ⟨key', x1, x2, x3⟩ := hp (j + 1) q (by simpa using e)
      exact ⟨key', by rw [show i + 1 + j = i + (j + 1) by omega]; exact x1, by rw [show i + 1 + j = i + (j + 1) by omega]; exact x2, x3⟩
    · rw [show i + 1 + ps.length = i + (ps.length + 1) by omega]
      exact hend
/-- the loop from its start -/
theorem zip_loop0 {d z TI TO i1 i2 l1 l2 : Addr} {xs ys : Array Value} {a b : Value} (hA : A.handled = none) (D : ZipApart z TI TO i1 i2 l1 l2) (zd : z ≠ d) (TId : TI ≠ d) (TOd : TO ≠ d) (i1d : i1 ≠ d) (i2d : i2 ≠ d) (l1d : l1 ≠ d) (l2d : l2 ≠ d) (ps : List (K × Value)) (s : Shared) (t : Tok) (R : Result → Shared → Prop)
    (hz : IsZip s.heap z TI TO .none) (hTI : IsPair s.heap TI (.ref i1) (.ref i2)) (hTO : IsPair s.heap TO a b) (h1 : s.heap.IsListIter i1 l1 0) (h2 : s.heap.IsListIter i2 l2 0) (hl1 : s.heap.IsList l1 xs) (hl2 : s.heap.IsList l2 ys)
    (hp : ∀ (j : Nat) (p : K × Value), ps[j]? = some p → ∃ key : Value, xs[j]? = some key ∧ ys[j]? = some p.2 ∧ knd.is p.1 key = true) (hend : xs[ps.length]? = none ∨ ys[ps.length]? = none)
    (hd : s.heap.DictOf knd d []) (hsz : ps.length ≤ sizeLine)
    (hR : ∀ h' tk, h'.DictOf knd d (putAll [] ps) → (∀ b o, b ≠ d → b ≠ z → b ≠ TO → b ≠ i1 → b ≠ i2 → s.heap.get? b = some o → h'.get? b = some o) → R (.ok (.ret .none)) { s with heap := h', toks := tk }) :
    codeAny (model prog w) A (.builtin "dict.update.loop" ⟨[.ref d, .ref z, .int (0 : Nat) t, .none], []⟩) R s := by
  cases ps with
  | nil =>
    refine codeAny_builtin entry_uloop ?_
    unfold Builtin.«dict.update.loop»
    dsimp only
    refine wpAny_bind (wpAny_pyNext_zip_end hA D hz hTI hTO h1 h2 hl1 hl2 hend fun h' eb => ?_)
    show wpAny _ _ (Builtin.Dict.addKeywords d [] >>= _) _ _ _
    refine wpAny_bind (wpAny_pure (wpAny_pure ?_))
    exact hR h' s.toks (let ⟨o, es, ep, ho, r⟩ := hd; ⟨o, es, ep, eb d o (Ne.symm zd) (Ne.symm TOd) (Ne.symm i1d) (Ne.symm i2d) ho, r⟩) fun b o _ b1 b2 b3 b4 e => eb b o b1 b2 b3 b4 e
  | cons p ps =>
    obtain ⟨key, hx, hy, hk⟩ := hp 0 p rfl
    have hI2 := h2
    refine codeAny_builtin entry_uloop ?_
    unfold Builtin.«dict.update.loop»
    dsimp only
    refine wpAny_bind (wpAny_pyNext_zip_item D hz hTI hTO h1 h2 hl1 hl2 hx hy fun h' a1 a2 a3 a4 a5 a6 a7 => ?_)
    dsimp only
    refine wpAny_bind (wpAny_holding (wpAny_bind ?_))
    have hTy : ({ s with heap := h' } : Shared).TypeIs (.ref s.heap.objs.size) "tuple" := ⟨_, a5, rfl⟩
    refine wpAny_tryCatch (wpAny_bind (wpAny_typeOf hTy ?_))
    rw [if_pos (by decide)]
    refine wpAny_bind (wpAny_bind (wpAny_load a5 (wpAny_pure ?_)))
    refine wpAny_pure ?_
    show wpAny _ _ (holding [key, p.2] (dictSet d key p.2)) _ _ _
    have dlt : d < s.heap.objs.size := by obtain ⟨o, _, _, ho, _⟩ := hd; exact Heap.lt_size ho
    have hd' : h'.DictOf knd d [] := let ⟨o, es, ep, ho, r⟩ := hd; ⟨o, es, ep, a7 d o (Ne.symm zd) (Ne.symm TOd) (Ne.symm i1d) (Ne.symm i2d) ho, r⟩
    refine wpAny_holding (wpAny_dictSet_pairs (s := { s with heap := h' }) hk hd' (fun h2 hd2 hs2 => ?_) (by rw [List.length_cons] at hsz; simp only [List.length_nil]; omega))
    refine wpAny_pure ⟨Code.quiet_builtin _ (by decide +kernel), ?_⟩
    have keep : ∀ c o, c ≠ d → c ≠ z → c ≠ TO → c ≠ i1 → c ≠ i2 → s.heap.get? c = some o → h2.get? c = some o := fun c o c1 c2 c5 c3 c4 e => (hs2.2 c c1).trans (a7 c o c2 c5 c3 c4 e)
    have ls := len_stored ([] : List (K × Value)) p.1 p.2
    rw [List.length_cons] at hsz hend
    have lt : ∀ {c : Addr} {o : Obj}, s.heap.get? c = some o → s.heap.objs.size ≠ c := fun e => Nat.ne_of_gt (Heap.lt_size e)
    have O : ZipOff d z TI s.heap.objs.size i1 i2 l1 l2 := ⟨zd, TId, i1d, i2d, l1d, l2d, Nat.ne_of_gt dlt, lt hz, by obtain ⟨_, e, _⟩ := h1; exact lt e, by obtain ⟨_, e, _⟩ := hI2; exact lt e⟩
    refine zip_loop (xs := xs) (ys := ys) (T := s.heap.objs.size) hA D O ps 1 { s with heap := h2, toks := s.toks + 1 } _ (stored [] p.1 p.2) false R ?_ ⟨_, (hs2.2 _ (Nat.ne_of_gt dlt)).trans a5⟩ ?_ ?_ ?_ ?_ ?_ (fun j q e => ?_) ?_ hd2 (by rw [List.length_nil] at ls; omega) fun h3 tk hd3 k3 => hR h3 tk hd3 fun c o c1 c2 c5 c3 c4 e => k3 c o c1 c2 c3 c4 (keep c o c1 c2 c5 c3 c4 e)
    · exact (hs2.2 z zd).trans a1
    · exact keep TI _ TId D.TIz D.TITO D.TIi1 D.TIi2 hTI
    · exact a3.at fun o e => (hs2.2 i1 i1d).trans e
    · exact a4.at fun o e => (hs2.2 i2 i2d).trans e
    · obtain ⟨o, ho, r⟩ := hl1
      exact ⟨o, keep l1 o l1d D.l1z D.l1TO D.l1i1 D.l1i2 ho, r⟩
    · obtain ⟨o, ho, r⟩ := hl2
      exact ⟨o, keep l2 o l2d D.l2z D.l2TO D.l2i1 D.l2i2 ho, r⟩
    · obtain ⟨key', x1, x2, x3⟩ := hp (j + 1) q (by simpa using e)
      exact ⟨key', by rw [show 1 + j = j + 1 by omega]; exact x1, by rw [show 1 + j = j + 1 by omega]; exact x2, x3⟩
    · rw [show 1 + ps.length = ps.length + 1 by omega]
      exact hend
end
end L2

set_option maxHeartbeats 1000000
namespace L2
open PySem PySem.Spec PyProof.Rows
theorem zip_keys_miss : typeLookup (.type "zip") "keys" = pure none := by rw [typeLookup_type, builtinLookup_eq_fast]; kernel_rfl
theorem am_zip_getattr_none : typeLookup (.type "zip") "__getattr__" = pure none := by rw [typeLookup_type, builtinLookup_eq_fast]; kernel_rfl
theorem am_entry_zip_getattribute : entryFor table "zip.__getattribute__" = some Builtin.«object.__getattribute__» :=
  entryFor_alias (id' := "object.__getattribute__") (by kernel_rfl) (by decide +kernel) (by decide +kernel) (by kernel_rfl)
theorem meets_miss_zip (a : Addr) (vs : Array Value) (u : Tok) :
    Meets (Builtin.«object.__getattribute__» ⟨[.ref a, .str "keys" u], []⟩) (fun A R s => s.heap.get? a = some { cls := .type "zip", dict := none, data := .fields vs, slots := #[] } ∧ raisesAttr (.ref a) "keys" A R s) :=
  Meets.of_wp fun prog w A R s hs => by
    obtain ⟨hp, g, d, tk, os⟩ := s
    obtain ⟨hx, hs⟩ := hs
    have hT : (⟨hp, g, d, tk, os⟩ : Shared).TypeIs (.ref a) "zip" := ⟨_, hx, rfl⟩
    have hmiss := zip_keys_miss
    have hname : (["__module__", "__name__", "__qualname__", "__doc__", "__annotations__"] : List Str).contains "keys" = false := by decide
    unfold Builtin.«object.__getattribute__»
    repeat (any_goals (first | assumption | wp_step))
    try simp only [hname, Bool.false_eq_true, if_false]
    repeat (any_goals (first | assumption | wp_step))
    exact wpAny_raiseAttrError hs.1 hs.2 (attrMsg_fits (by decide +kernel) (by decide))
theorem no_keys_zip {prog : Program} {w : World} {A : Around} {E : Value → Shared → Prop} {s : Shared} {a : Addr} {vs : Array Value} {Q : Option Value → Shared → Prop}
    (hx : s.heap.get? a = some { cls := .type "zip", dict := none, data := .fields vs, slots := #[] }) (hA : A.handled = none)
    (h : ∀ h' tk, (∀ b o, s.heap.get? b = some o → h'.get? b = some o) → Q none { s with heap := h', toks := tk }) : wpAny (model prog w) A (getAttr? (.ref a) "keys") Q E s := by
  obtain ⟨hp, g, d, tk, os⟩ := s
  have hT : ∀ tk', (⟨hp, g, d, tk', os⟩ : Shared).TypeIs (.ref a) "zip" := fun _ => ⟨_, hx, rfl⟩
  have f1 := sub_AttributeError
  have f3 := PySem.F.slot_zip_getattribute.lookup
  have f4 := PySem.F.slot_zip_getattribute.bind (.ref a)
  have f5 := am_zip_getattr_none
  unfold getAttr? getAttrBy? getAttrBy
  repeat (any_goals (first | assumption | exact hT _ | ((with_reducible show wpAny _ _ (call (Value.builtin "zip.__getattribute__") _ _) _ _ _); refine call_meets PySem.F.slot_zip_getattribute (hT _) am_entry_zip_getattribute (PySem.F.args_zip_getattribute_2 _ _) (meets_miss_zip a vs _) ⟨hx, hA, fun h' tk' e hx' => ?_⟩) | wp_step))
  obtain ⟨t', u', he⟩ := hx'.there
  show wpAny _ _ (getattributeRaised _ _ _ _ _ _ _) _ _ _
  unfold getattributeRaised
  repeat (any_goals (first | assumption | wp_step))
  exact h _ _ hx'.of.keeps
section
variable {prog : Program} {w : World} {K : Type} [DecidableEq K] {knd : KeyKind prog w K} {A : Around}
/-- dict(zip(a, b)) -/
theorem call_dict_zip {E : Value → Shared → Prop} {s : Shared} {l1 l2 : Addr} {xs ys : Array Value} {Q : Value → Shared → Prop} (hA : A.handled = none) (ps : List (K × Value)) (hl1 : s.heap.IsList l1 xs) (hl2 : s.heap.IsList l2 ys)
    (hp : ∀ (j : Nat) (p : K × Value), ps[j]? = some p → ∃ key : Value, xs[j]? = some key ∧ ys[j]? = some p.2 ∧ knd.is p.1 key = true) (hend : xs[ps.length]? = none ∨ ys[ps.length]? = none) (hz : ps.length ≤ sizeLine)
    (h : ∀ h' tk d, s.heap.objs.size ≤ d → h'.DictOf knd d (putAll [] ps) → (∀ b o, s.heap.get? b = some o → h'.get? b = some o) → Q (.ref d) { s with heap := h', toks := tk }) :
    wpAny (model prog w) A (call (.type "zip") [.ref l1, .ref l2]) (fun v s1 => wpAny (model prog w) A (call (.type "dict") [v]) Q E s1) E s := by
  refine call_zip_2 hl1 hl2 fun h0 hZ hTI hTO hi1 hi2 hsz k0 => ?_
  have lt1 : l1 < s.heap.objs.size := by obtain ⟨o, ho, _⟩ := hl1; exact Heap.lt_size ho
  have lt2 : l2 < s.heap.objs.size := by obtain ⟨o, ho, _⟩ := hl2; exact Heap.lt_size ho
  refine callType_codes (Q₁ := fun obj s₁ => obj = .ref h0.objs.size ∧ s₁ = { s with heap := h0.push { cls := .type "dict", data := .dict #[] } }) PySem.F.kt_called_dict (PySem.F.kt_typeCall_dict_1 _) PySem.F.entry_dict_init (kt_code_dict_new _ ⟨rfl, rfl⟩) ?_
  rintro obj s₁ ⟨rfl, rfl⟩
  have hnew : (h0.push { cls := .type "dict", data := .dict #[] }).DictOf knd h0.objs.size [] := Heap.DictOf.new h0
  have hZ1 := Heap.get?_push_of_some { cls := .type "dict", data := .dict #[] } hZ
  refine ⟨hnew.typeIs, PySem.F.args_dict_init_2 _ _, ?_⟩
  unfold Builtin.«dict.__init__»
  refine wpAny_bind ?_
  unfold Builtin.Dict.selfAndRest
  refine wpAny_bind (wpAny_notOrdered_dict hnew.typeIs ?_)
  show wpAny _ _ (pure (h0.objs.size, [Value.ref (s.heap.objs.size + 4)])) _ _ _
  refine wpAny_pure ?_
  show wpAny _ _ (Builtin.Dict.updateFrom "dict.__init__" h0.objs.size (.ref (s.heap.objs.size + 4)) [] .none) _ _ _
  unfold Builtin.Dict.updateFrom
  refine wpAny_bind (wpAny_typeOf (T := "zip") ⟨_, hZ1, rfl⟩ ?_)
  rw [if_pos (by decide)]
  refine wpAny_bind (no_keys_zip hZ1 hA fun h' tk kp => ?_)
  rw [if_pos (by decide)]
  refine wpAny_bind (wpAny_rule (wpAny_bind ?_))
  have up : ∀ b o, h0.get? b = some o → h'.get? b = some o := fun b o e => kp _ _ (Heap.get?_push_of_some _ e)
  refine wpAny_pyIter_zip (up _ _ hZ) ?_
  refine wpAny_pure ⟨Code.quiet_builtin _ (by decide +kernel), ?_⟩
  have D : ZipApart (s.heap.objs.size + 4) (s.heap.objs.size + 2) (s.heap.objs.size + 3) s.heap.objs.size (s.heap.objs.size + 1) l1 l2 := by
    constructor <;> (simp only [Addr] at *; omega)
  refine zip_loop0 (knd := knd) (xs := xs) (ys := ys) (d := h0.objs.size) (A := A.in1) hA D (by rw [hsz]; simp only [Addr] at *; omega) (by rw [hsz]; simp only [Addr] at *; omega) (by rw [hsz]; simp only [Addr] at *; omega) (by rw [hsz]; simp only [Addr] at *; omega) (by rw [hsz]; simp only [Addr] at *; omega) (by rw [hsz]; simp only [Addr] at *; omega) (by rw [hsz]; simp only [Addr] at *; omega) ps { s with heap := h', toks := tk } _ _ (up _ _ hZ) (up _ _ hTI) (up _ _ hTO) (hi1.at fun o e => up _ _ e) (hi2.at fun o e => up _ _ e) ?_ ?_ hp hend ?_ hz fun h3 tk3 hd3 k3 => ?_
  · obtain ⟨o, ho, r⟩ := hl1
    exact ⟨o, up _ _ (k0 _ _ ho), r⟩
  · obtain ⟨o, ho, r⟩ := hl2
    exact ⟨o, up _ _ (k0 _ _ ho), r⟩
  · obtain ⟨o, es, ep, ho, r⟩ := hnew
    exact ⟨o, es, ep, kp _ _ ho, r⟩
  · refine ⟨rfl, h h3 tk3 _ (by rw [hsz]; exact Nat.le_add_right _ _) hd3 fun b o e => ?_⟩
    have lb : b < s.heap.objs.size := Heap.lt_size e
    refine k3 b o ?_ ?_ ?_ ?_ ?_ (up _ _ (k0 _ _ e)) <;> first | (rw [hsz]; simp only [Addr] at *; omega) | (simp only [Addr] at *; omega)
end
end L2

set_option maxHeartbeats 1000000
namespace L2
open PySem PySem.Spec PyProof.Rows
section
variable {X : Cx}
/-- dict(zip(a, b)), a list of keys, b a list -/
noncomputable def tDictZip (K : PySem.W.Frag) (t : TA) : TE := fun σ H Q => t σ H fun vs H1 => ∃ (l1 l2 : Addr) (ks : List Key) (ws : List V), vs = [.ref l1, .ref l2] ∧ SqL K H1 l1 (ks.map kV) ∧ SqL K H1 l2 ws ∧ ∀ d, H1 d = none → Q (.ref d) (upd H1 d (.dK (putAllK [] (ks.zip ws))))
theorem zip_kv : ∀ {ks : List Key} {ws : List V} {us vs : List Value}, Vals (ks.map kV) us → Vals ws vs → ∃ qs : List (Key × Value), KV (ks.zip ws) qs ∧ (∀ (j : Nat) (p : Key × Value), qs[j]? = some p → ∃ key, us[j]? = some key ∧ vs[j]? = some p.2 ∧ RelV (kV p.1) key) ∧ qs.length = min us.length vs.length
  | [], ws, us, vs, hu, hv => by
    cases hu
    exact ⟨[], by rw [List.zip_nil_left]; exact .nil, fun j p e => by simp at e, by simp⟩
  | k :: ks, [], us, vs, hu, hv => by
    cases hv
    exact ⟨[], by rw [List.zip_nil_right]; exact .nil, fun j p e => by simp at e, by simp⟩
  | k :: ks, w :: ws, us, vs, hu, hv => by
    cases hu with
    | cons a1 b1 =>
      cases hv with
      | cons a2 b2 =>
        obtain ⟨qs, c1, c2, c3⟩ := zip_kv b1 b2
        refine ⟨(k, _) :: qs, .cons ⟨rfl, a2⟩ c1, fun j p e => ?_, by simp only [List.length_cons, c3]; omega⟩
        cases j with
        | zero =>
          simp at e
          subst e
          exact ⟨_, rfl, rfl, a1⟩
        | succ j => exact c2 j p (by simpa using e)
theorem pe_dictzip {a b : Expr} {t : TA} {p1 p2 pos pos2 : Pos} (hc : X.calm = true) (hgd : Gl X "dict") (hmd : X.mg "dict" = none) (hgz : Gl X "zip") (hmz : X.mg "zip" = none) (ha : PA X [a, b] t)
    (he : starEach [a, b] X.env = (false, eval a X.env) :: starEach [b] X.env := by rfl) (hpl : (backTo pos2 (starEach [b] X.env)).any (·.1) = false := by rfl) :
    PE X (.Call (.Name "dict" p1) [.Call (.Name "zip" p2) [a, b] [] pos2] [] pos) (tDictZip X.K t) := by
  intro pins s σ H Q I h
  refine wpAny_Call_Name_kw (ld_blt I hgd hmd (u := .type "dict") rfl ?_)
  refine PyProof.Rows.callWith_type1 ?_ rfl rfl
  show wpAny _ _ (spliced ((false, eval (.Call (.Name "zip" p2) [a, b] [] pos2) X.env) :: [])) _ _ _
  refine Calls.spliced_cons ?_
  refine wpAny_Call_Name_kw (ld_blt I hgz hmz (u := .type "zip") boot_zip ?_)
  refine PyProof.Rows.callWith_type1 (thn (ha pos2 pins s σ H _ I h) fun us s1 ⟨vs, H1, I1, r1, q1⟩ => ?_) he hpl
  obtain ⟨l1, l2, ks, ws, rfl, e1, e2, q⟩ := q1
  obtain ⟨u1, u2, rfl, ru1, ru2⟩ := vals2 r1
  obtain rfl : u1 = Value.ref l1 := ru1
  obtain rfl : u2 = Value.ref l2 := ru2
  obtain ⟨i1, v1, P1, z1⟩ := I1.list e1
  obtain ⟨i2, v2, P2, z2⟩ := I1.list e2
  obtain ⟨qs, hkv, hget, hlen⟩ := zip_kv v1 v2
  have lq : qs.length = (ks.zip ws).length := (Paired.length hkv).symm
  have hz : qs.length ≤ sizeLine := by
    rw [lq, List.length_zip]
    omega
  refine thn (call_dict_zip (knd := mixKind X.prog X.w) (E := X.xe) (Q := fun v s' => EP X pins σ Q v s') (I.ok.hd hc) qs P1.isList P2.isList (fun j p e => ?_) ?_ hz fun h' tk d hd dd k => ?_) fun v s2 hv => Calls.spliced_nil hv
  · obtain ⟨key, x1, x2, x3⟩ := hget j p e
    exact ⟨key, by simpa using x1, by simpa using x2, kV_key x3⟩
  · rw [hlen]
    by_cases hh : i1.length ≤ i2.length
    · exact .inl (by simp [Nat.min_eq_left hh])
    · exact .inr (by simp; omega)
  · have hf : H1 d = none := I1.hok.fresh hd
    refine ⟨.ref d, upd H1 d (.dK (putAllK [] (ks.zip ws))), I1.laid (t' := tk) k hd (dk_new ?_ (beq_eq_false_iff_ne.mpr (Nat.ne_of_gt (Nat.lt_of_lt_of_le I1.big hd))) (KV.putAll hkv .nil) dd), rfl, q d hf⟩
    have z := len_putAllK (ks.zip ws) []
    rw [← lq, List.length_nil] at z
    omega
end
end L2

set_option maxHeartbeats 1000000
namespace L2
open PySem PySem.Spec PyProof.Rows
section
variable {X : Cx} {e st : Expr} {te : TE} {lo hi : Option Expr} {tl th ts : TO} {pos p2 : Pos}
/-- the items of xs[lo:hi:st] -/
noncomputable def pickV (xs : List V) (lo hi st : Option Int) : List V := (sliceRange (sliceBounds lo hi st xs.length).1 (sliceBounds lo hi st xs.length).2.1 (sliceBounds lo hi st xs.length).2.2).filterMap (xs[·]?)
theorem vals_pick {xs : List V} {its : List Value} (r : Vals xs its) : ∀ is : List Nat, Vals (is.filterMap (xs[·]?)) (is.filterMap (its[·]?))
  | [] => .nil
  | i :: is => by
    cases h : xs[i]? with
    | none =>
      have h2 : its[i]? = none := by
        rw [List.getElem?_eq_none_iff] at h ⊢
        rw [← r.length]
        exact h
      rw [List.filterMap_cons_none h, List.filterMap_cons_none h2]
      exact vals_pick r is
    | some x =>
      obtain ⟨v, h2, rv⟩ := r.get (i := i) (x := x) h
      rw [List.filterMap_cons_some h, List.filterMap_cons_some h2]
      exact .cons rv (vals_pick r is)
noncomputable def tSl3 (K : PySem.W.Frag) (te : TE) (tl th ts : TO) : TE := fun σ H Q => te σ H fun x H1 => tl σ H1 fun l H2 => th σ H2 fun u H3 => ts σ H3 fun k H4 =>
  ∃ a xs, x = .ref a ∧ SqL K H4 a xs ∧ k ≠ some 0 ∧ ((pickV xs l u k).length ≤ xs.length → ∀ p, H4 p = none → Q (.ref p) (upd H4 p (.lst (pickV xs l u k))))
/-- a[lo:hi:st] of a list -/
theorem pe_slice3 (he : PE X e te) (hl : PO X lo tl) (hu : PO X hi th) (hk : PO X (some st) ts) : PE X (.Subscript e (.Slice lo hi (some st) p2) pos) (tSl3 X.K te tl th ts) := by
  intro pins s σ H Q I h
  refine Subscript_ (thn (he pins s σ H _ I h) fun v s1 ⟨x, H1, I1, r1, q1⟩ => ?_)
  refine wpAny_Slice (thn (hl pins s1 σ H1 _ I1 q1) fun vl s2 ⟨l, H2, I2, pl, q2⟩ => thn (hu pins s2 σ H2 _ I2 q2) fun vu s3 ⟨u, H3, I3, pu, q3⟩ => thn (hk pins s3 σ H3 _ I3 q3) fun vk s4 ⟨k, H4, I4', pk, q4⟩ => ?_)
  obtain ⟨a, xs, rfl, hx, k0, q⟩ := q4
  obtain rfl : v = Value.ref a := r1
  have I5 : Inv X pins σ H4 { s4 with heap := s4.heap.push { cls := .type "slice", data := .fields #[vl, vu, vk] } } := I4'.kept (t' := s4.toks) fun b ob q => Heap.get?_push_of_some _ q
  obtain ⟨its, r, ht, hz⟩ := I5.list hx
  have hlen := r.length
  have hps : Vals (pickV xs l u k) (slicePick its.toArray l u k).toList := by
    unfold slicePick pickV
    rw [List.size_toArray, ← hlen]
    simpa using vals_pick r _
  have hpl : (pickV xs l u k).length ≤ xs.length := by
    have := slicePick_size_le its.toArray l u k
    rw [List.size_toArray, ← Array.length_toList, ← hps.length, ← hlen] at this
    exact this
  show wpAny (model X.prog X.w) X.A (subscriptTail e (.Slice lo hi (some st) p2) (.ref a) (.ref s4.heap.objs.size)) (EP X pins σ Q) X.xe { s4 with heap := s4.heap.push { cls := .type "slice", data := .fields #[vl, vu, vk] } }
  refine tail_any (ops := [.ref a, .ref s4.heap.objs.size]) ht.isList.typeIs slot_list_getitem.lookup ?_ (by with_unfolding_all rfl)
  refine wpAny_getItem_list_slice ht.isList (Heap.IsSliceOf.new ..) pl pu pk k0 ?_ (by rw [List.size_toArray] <;> omega)
  refine ⟨.ref _, _, I5.laid (t' := s4.toks) (o := .lst (pickV xs l u k)) (fun b ob q => Heap.get?_push_of_some _ q) (Nat.le_refl _) ?_, rfl, q hpl _ (I5.hok.fresh (Nat.le_refl _))⟩
  refine ⟨Nat.le_trans hpl hz, (slicePick its.toArray l u k).toList, 0, hps, ?_⟩
  rw [Array.toArray_toList]
  exact Heap.get?_push_size _ rfl
/-- asked of a range, within a comprehension -/
theorem rg_ask {lo : Int} {n i : Nat} {H : Hp} {A : Prop} {B : V → Hp → Prop} (hi : i ≤ n) (hs : i < n → B (.int (lo + i)) H) (hd : i = n → A) :
    ((Itr lo n).stop i H ∧ A) ∨ ((Itr lo n).go i H ∧ ∀ x H', (Itr lo n).yld i H x H' → B x H') := by
  by_cases hlt : i < n
  · refine .inr ⟨hlt, fun x H' y => ?_⟩
    obtain ⟨rfl, rfl⟩ := y
    exact hs hlt
  · exact .inl ⟨by show n ≤ i; omega, hd (by omega)⟩
theorem ints_items : ∀ {ns : List Int} {its : List Value}, Vals (ns.map V.int) its → ∃ xs : List (Int × Tok), its = xs.map fun p => Value.int p.1 p.2
  | [], its, h => by cases h; exact ⟨[], rfl⟩
  | n :: ns, its, h => by
    cases h with
    | cons a b =>
      obtain ⟨t, rfl⟩ := a
      obtain ⟨xs, rfl⟩ := ints_items b
      exact ⟨(n, t) :: xs, rfl⟩
/-- sum(xs) of whole numbers: some number -/
noncomputable def rSumW (K : PySem.W.Frag) (xs : List V) (H : Hp) (Q : VK) : Prop := ∃ (l : Addr) (ns : List Int), xs = [.ref l] ∧ SqL K H l (ns.map V.int) ∧ ∀ z : Int, Q (.int z) H
theorem call_sumW (hc : X.calm = true) : CallR X (.builtin "sum") (rSumW X.K) := by
  intro pins s σ H xs us Q I r h
  obtain ⟨l, ns, rfl, hl, q⟩ := h
  obtain ⟨u, rfl, ru⟩ := vals1 r
  obtain rfl : u = Value.ref l := ru
  obtain ⟨its, v, P1, z1⟩ := I.list hl
  obtain ⟨ys, rfl⟩ := ints_items v
  have hl' : s.heap.IsList l (intItems ys.toArray) := by
    have := P1.isList
    rw [show (ys.map fun p => Value.int p.1 p.2).toArray = intItems ys.toArray by unfold intItems; simp] at this
    exact this
  exact sum_intListG (I.ok.hd hc) hl' fun h' tk t' hk => ⟨.int _, H, I.kept (t' := tk) hk, ⟨t', rfl⟩, q _⟩
end
end L2

set_option maxHeartbeats 1000000
namespace L2
open PySem PySem.Spec PyProof.Rows
section
variable {X : Cx} {pins : List (Addr × Obj)} {σ : List (Option V)} {H H' : Hp} {s : Shared} {h' : Heap}
/-- records of ours have turned -/
theorem Inv.turnedL {t' : Nat} {wr : List Addr} (I : Inv X pins σ H s) (k : ∀ b o, b ∉ wr → s.heap.get? b = some o → h'.get? b = some o) (hf : ∀ b ∈ wr, FpOk X pins H b) : Inv X pins σ H { s with heap := h', toks := t' } := by
  have nit : ∀ b u, H b = some u → b ∉ wr := fun b u e z => by rw [(hf b z).1] at e; cases e
  refine I.step (g' := s.gens) (d' := s.drawn) (ch := wr) (fun b hb => ⟨(hf b hb).2.2.2.1, (hf b hb).2.1, (hf b hb).2.2.2.2.1, (hf b hb).2.2.2.2.2⟩) (fun b o _ _ hc e _ => k b o hc e) (fun b o _ _ hc e _ => ⟨o.slots, k b o hc e⟩) (fun _ _ _ _ n => n)
    (fun b o hc e => ⟨o, k b o hc e⟩) (fun _ _ e => e) (fun _ _ _ e => e) (fun b ps e => ⟨#[], by rw [e]; simp⟩) (fun m hm => ?_) (fun b u e => ?_) I.bare
  · obtain ⟨o, es, ep, ho, r⟩ := hm
    exact ⟨o, es, ep, k _ o (fun z => (hf _ z).2.1 rfl) ho, r⟩
  · refine (I.hok b u e).stay (fun c v hc q => k c v ?_ q) (fun _ q => q) fun _ _ q => q
    rcases hc with z | z
    · rw [z]; exact nit b u e
    · exact nit c _ z
/-- .. and a tuple was laid -/
theorem Inv.turnedT {t' : Nat} {wr : List Addr} {T : Addr} {xs : List V} {its : List Value} (I : Inv X pins σ H s) (k : ∀ b o, b ∉ wr → s.heap.get? b = some o → h'.get? b = some o) (hf : ∀ b ∈ wr, FpOk X pins H b)
    (hT : s.heap.objs.size ≤ T) (hw : T ∉ wr) (rv : Vals xs its) (hl : xs.length ≤ sizeLine) (ht : IsTup h' T its.toArray) : Inv X pins σ (upd H T (.tup xs)) { s with heap := h', toks := t' } := by
  have hn : H T = none := I.hok.fresh hT
  have neT : ∀ b o, s.heap.get? b = some o → b ≠ T := fun b o e => Nat.ne_of_lt (Nat.lt_of_lt_of_le (Heap.lt_size e) hT)
  have nit : ∀ b u, H b = some u → b ∉ wr := fun b u e z => by rw [(hf b z).1] at e; cases e
  refine I.step (g' := s.gens) (d' := s.drawn) (ch := wr) (fun b hb => ⟨(hf b hb).2.2.2.1, (hf b hb).2.1, (hf b hb).2.2.2.2.1, (hf b hb).2.2.2.2.2⟩) (fun b o _ _ hc e _ => k b o hc e) (fun b o _ _ hc e _ => ⟨o.slots, k b o hc e⟩) (fun b o _ e n => by rw [upd_ne (neT b o e)]; exact n)
    (fun b o hc e => ⟨o, k b o hc e⟩) (fun b xs e => by rw [upd_ne (ne_of_none e hn)]; exact e) (fun b _ _ e => by rw [upd_ne (ne_of_none e hn)]; exact e) (fun b ps e => ⟨#[], by rw [upd_ne (ne_of_none e hn), e]; simp⟩) (fun m hm => ?_) (fun b u e => ?_) I.bare
  · obtain ⟨o, es, ep, ho, r⟩ := hm
    exact ⟨o, es, ep, k _ o (fun z => (hf _ z).2.1 rfl) ho, r⟩
  · by_cases hb : b = T
    · subst hb
      rw [upd_same] at e
      cases e
      exact ⟨hl, its, rv, ht⟩
    · rw [upd_ne hb] at e
      refine (I.hok b u e).stay (fun c v hc q => k c v ?_ q) (fun c q => ?_) fun c _ q => ?_
      · rcases hc with z | z
        · rw [z]; exact nit b u e
        · exact nit c _ z
      · rw [upd_ne (ne_of_none q hn)]; exact q
      · rw [upd_ne (ne_of_none q hn)]; exact q
end
/-- a turn of an iterator that hands out a new tuple, to a target that is a tuple -/
theorem turn_pair {X : Cx} {pins : List (Addr × Obj)} {σ : St} {H : Hp} {s : Shared} {E : Value → Shared → Prop} {z : Addr} {fpw wr : List Addr} {n i : Nat} {Pt : Nat → Array Value → Prop} {St' : Nat → Heap → Prop} {Mid : Nat → Addr → Heap → Prop}
    {elts : List Expr} {kk : Nat} {pos : Pos} {Yl : V → Hp → Prop} {Tn : Heap → Prop} {fp : List Addr}
    (W : WalksT X.prog X.w X.A z fpw wr n Pt St' Mid) (I : Inv X pins σ H s) (hf : ∀ b ∈ fp, FpOk X pins H b) (hfp : ∀ b ∈ fp, ∃ o, s.heap.get? b = some o) (hwr : ∀ b ∈ wr, b ∈ fp) (hi : i < n) (st : St' i s.heap) (hn : ∀ h, St' (i + 1) h → Tn h)
    (hv : ∀ vals, Pt i vals → ∃ xs : List V, Vals xs vals.toList ∧ xs.length ≤ sizeLine ∧ ∀ T, H T = none → Yl (.ref T) (upd H T (.tup xs))) :
    wpAny (model X.prog X.w) X.A (pyNext (.ref z)) (fun r s1 => ∃ u, r = some u ∧
      wpAny (model X.prog X.w) X.A (letOwnedTupleGo (.Tuple elts kk pos) (.ref z) u) (fun _ s2 => ∃ x H', Inv X pins σ H' s2 ∧ RelV x u ∧ Yl x H' ∧ Tn s2.heap ∧ ∀ b ∈ fp, H' b = none) E s1) E s := by
  refine W.item i s _ E hi st fun T vals h' tk hp hT ht hm hk => ⟨_, rfl, ?_⟩
  obtain ⟨xs, rv, hl, hy⟩ := hv vals hp
  have hTw : T ∉ wr := W.apart i T h' hm
  have hTn : H T = none := I.hok.fresh hT
  have hwf : ∀ b ∈ wr, FpOk X pins H b := fun b hb => hf b (hwr b hb)
  have ht' : IsTup h' T vals.toList.toArray := by
    rw [Array.toArray_toList]
    exact ht
  have I1 : Inv X pins σ (upd H T (.tup xs)) { s with heap := h', toks := tk } := I.turnedT hk hwf hT hTw rv hl ht'
  have neT : ∀ b ∈ fp, b ≠ T := fun b hb e => by
    subst e
    obtain ⟨o, q⟩ := hfp b hb
    exact absurd (Nat.lt_of_lt_of_le (Heap.lt_size q) hT) (Nat.lt_irrefl _)
  have hw2 : ∀ b ∈ wr, FpOk X pins (upd H T (.tup xs)) b := fun b hb => ⟨by rw [upd_ne (neT b (hwr b hb))]; exact (hwf b hb).1, (hwf b hb).2⟩
  refine W.go elts kk pos i T _ _ _ hm fun h2 st2 hk2 => ?_
  have I2 := I1.turnedL (t' := tk) (h' := h2) hk2 hw2
  exact ⟨.ref T, _, I2, rfl, hy T hTn, hn _ st2, fun b hb => by rw [upd_ne (neT b hb)]; exact (hf b hb).1⟩
theorem turn_pair_end {X : Cx} {pins : List (Addr × Obj)} {σ : St} {H : Hp} {s : Shared} {E : Value → Shared → Prop} {z : Addr} {fpw wr : List Addr} {n : Nat} {Pt : Nat → Array Value → Prop} {St' : Nat → Heap → Prop} {Mid : Nat → Addr → Heap → Prop}
    (W : WalksT X.prog X.w X.A z fpw wr n Pt St' Mid) (I : Inv X pins σ H s) (hf : ∀ b ∈ wr, FpOk X pins H b) (st : St' n s.heap) :
    wpAny (model X.prog X.w) X.A (pyNext (.ref z)) (fun r s1 => r = none ∧ Inv X pins σ H s1) E s :=
  W.done s _ E st fun h' tk hk => ⟨rfl, I.turnedL hk hf⟩

/-- enumerate of the list at a -/
noncomputable def Ite (K : PySem.W.Frag) (a : Addr) : It :=
  ⟨fun i H => ∃ xs x, SqL K H a xs ∧ xs[i]? = some x, fun i H v H' => ∃ T, v = .ref T ∧ H T = none ∧ ∀ xs x, SqL K H a xs → xs[i]? = some x → H' = upd H T (.tup [.int i, x]), fun i H => ∃ xs, SqL K H a xs ∧ xs.length = i⟩
theorem vals_two {x y : V} {u v : Value} (h1 : RelV x u) (h2 : RelV y v) : Vals [x, y] [u, v] := .cons h1 (.cons h2 .nil)
theorem turn_enum {P : Program} {w : World} {K : PySem.W.Frag} {elts : List Expr} {kk : Nat} {pos : Pos} (e it a : Addr) (hei : e ≠ it) (hae : a ≠ e) (hai : a ≠ it) :
    Turn P w K (.Tuple elts kk pos) (Ite K a) [e, it] e (fun i h => (∃ old, IsEnum h e it i old) ∧ h.IsListIter it a i) where
  mem := by simp
  obj := fun i h st b hb => by
    obtain ⟨⟨old, h1⟩, o, h2, c, d⟩ := st
    rcases List.mem_cons.mp hb with rfl | hb
    · exact ⟨_, h1, fun v z => by
        have z' : Data.fields _ = Data.cell v := z
        cases z'⟩
    · have e' : b = it := by simpa using hb
      subst e'
      exact ⟨o, h2, fun v z => by rw [d] at z; cases z⟩
  keep := fun i h h' st k => by
    obtain ⟨⟨old, h1⟩, h2⟩ := st
    exact ⟨⟨old, k e (by simp) _ h1⟩, h2.at fun o q => k it (by simp) o q⟩
  item := by
    intro X hP hw hK hc i pins s σ H E I hf st hg
    subst hP hw hK
    obtain ⟨xs, x, hq, hx⟩ := hg
    obtain ⟨its, rv, p, hz⟩ := I.list hq
    obtain ⟨u, hu, ru⟩ := rv.get hx
    have hil : i < its.length := by
      obtain ⟨h, _⟩ := List.getElem?_eq_some_iff.mp hu
      exact h
    refine turn_pair (Yl := fun x H' => (Ite X.K a).yld i H x H') (Tn := fun h => (∃ old, IsEnum h e it ((i + 1 : Nat) : Int) old) ∧ h.IsListIter it a (i + 1)) (WalksT.enumerate (I.ok.hd hc) e it a hei hae hai its.toArray) I hf (fun b hb => ?_) (fun b hb => hb) (by simpa using hil) ⟨st.1, st.2, p.isList⟩ (fun h q => ⟨q.1, q.2.1⟩) fun vals hp => ?_
    · obtain ⟨⟨old, h1⟩, o, h2, c, d⟩ := st
      rcases List.mem_cons.mp hb with rfl | hb
      · exact ⟨_, h1⟩
      · have e' : b = it := by simpa using hb
        subst e'
        exact ⟨o, h2⟩
    · obtain ⟨t, y, hy, rfl⟩ := hp
      have hy' : its[i]? = some y := by simpa using hy
      rw [hu] at hy'
      cases hy'
      refine ⟨[.int i, x], vals_two ⟨t, rfl⟩ ru, by show 2 ≤ sizeLine; decide, fun T hT => ⟨T, rfl, hT, fun xs' x' hq' hx' => ?_⟩⟩
      rw [I.list_inj hq' hq, hx] at hx'
      cases hx'
      rfl
  done := by
    intro X hP hw hK hc i pins s σ H E I hf st hg
    subst hP hw hK
    obtain ⟨xs, hq, hx⟩ := hg
    obtain ⟨its, rv, p, hz⟩ := I.list hq
    have hl := rv.length
    have hn : its.toArray.size = i := by simp; omega
    have := turn_pair_end (E := E) (WalksT.enumerate (prog := X.prog) (w := X.w) (I.ok.hd hc) e it a hei hae hai its.toArray) I hf (by rw [hn]; exact ⟨st.1, st.2, p.isList⟩)
    exact this
  self := fun _ _ _ _ _ st h => by
    obtain ⟨⟨old, h1⟩, _⟩ := st
    exact wpAny_pyIter_enum h1 h
section
variable {X : Cx} {elts : List Expr} {kk : Nat} {pt : Pos}
noncomputable def iEnum (K : PySem.W.Frag) (ta : TA) : TI := fun σ H R => ta σ H fun vs H1 => ∃ a xs, vs = [.ref a] ∧ SqL K H1 a xs ∧ R (Ite K a) H1
theorem boot_enum : bootBuiltins "enumerate" = some (.type "enumerate") := by rfl
theorem pi_enum {a : Expr} {ta : TA} {p pos : Pos} (hg : Gl X "enumerate") (hm : X.mg "enumerate" = none) (ha : PA X [a] ta) (hs : starEach [a] X.env = [(false, eval a X.env)] := by rfl) :
    PI X (.Tuple elts kk pt) (.Call (.Name "enumerate" p) [a] [] pos) (iEnum X.K ta) := by
  intro pins s σ H R I h
  refine Call_ (ld_blt I hg hm boot_enum (PyProof.Rows.callWith_type1 (thn (ha pos pins s σ H _ I h) fun us s1 ⟨vs, H1, I1, r1, q1⟩ => ?_) hs rfl))
  obtain ⟨l, xs, e, hq, q⟩ := q1
  subst e
  cases r1 with
  | cons r rr =>
    cases rr
    cases r
    obtain ⟨its, rv, pl, hz⟩ := I1.list hq
    have hll : l < s1.heap.objs.size := by
      obtain ⟨o, z, _⟩ := pl.isList
      exact Heap.lt_size z
    refine call_enumerate_list pl.isList fun h' he hit hsz hk => ?_
    refine wpAny_pyIter_enum he ?_
    refine ⟨s1.heap.objs.size + 1, [s1.heap.objs.size + 1, s1.heap.objs.size], _, _, H1, rfl, I1.kept (t' := s1.toks) hk, turn_enum (s1.heap.objs.size + 1) s1.heap.objs.size l (Nat.ne_of_gt (Nat.lt_succ_self _)) (Nat.ne_of_lt (Nat.lt_succ_of_lt hll)) (Nat.ne_of_lt hll), ⟨⟨_, he⟩, hit⟩, fun b hb => ?_, q⟩
    have hb' : s1.heap.objs.size ≤ b := by
      simp at hb
      rcases hb with rfl | rfl
      · exact Nat.le_succ _
      · exact Nat.le_refl _
    exact I1.fpOk hb' (I1.hok.fresh hb')
end
end L2

set_option maxHeartbeats 1000000
namespace L2
open PySem PySem.Spec PyProof.Rows
/-- products of numbers of some hundred bits -/
noncomputable def CMulB (i j : Int) : Prop := i.natAbs < 2 ^ 200 ∧ j.natAbs < 2 ^ 200
theorem CMulB.ok {i j : Int} (h : CMulB i j) : IntMulOk i j :=
  IntMulOk.of_bits (Nat.le_trans (intBits_le h.1) (by decide)) (Nat.le_trans (intBits_le h.2) (by decide))
section
variable {X : Cx} {o i : Expr} {pos : Pos} {td ty : TE}
theorem op_mulB : OpR X (binaryOp .Mult) (rI CMulB fun i j => .int (i * j)) := opI fun _ _ _ _ _ _ _ hc q => mul_int q hc.ok
/-- d[y] of a dict that stands at the text's top -/
noncomputable def tDGetC (P : Program) (w : World) (K : PySem.W.Frag) (td ty : TE) : TE := fun σ H Q => td σ H fun x H1 => ty σ H1 fun y H2 => ∃ a kvs k v, x = .ref a ∧ DkK P w K a kvs ∧ y = kV k ∧ valV kvs k = some v ∧ Q v H2
theorem pe_dgetC (ho : PE X o td) (hi : PE X i ty) (hs : NoSl i) : PE X (.Subscript o i pos) (tDGetC X.prog X.w X.K td ty) := by
  intro pins s σ H Q I h
  refine subD_of PySem.F.slot_dict_getitem.lookup hs (thn (ho pins s σ H _ I h) fun u s1 ⟨x, H1, I1, rx, q1⟩ => thn (hi pins s1 σ H1 _ I1 q1) fun iv s2 ⟨y, H2, I2, ry, a, kvs, k, v, ex, hd, ey, hv, q2⟩ => ?_)
  subst ex ey
  obtain rfl : u = Value.ref a := rx
  obtain ⟨z, hl, vs, rel, hd⟩ := hd
  have dd := hd _ I2.kIn
  obtain ⟨w', hw, rw'⟩ := RelO.some_of (v := v) (o := valueAt vs k) (by rw [← hv]; exact rel.val k)
  exact ⟨dd.typeIs, wpAny_getItem_of (kV_is ry) dd.mapOf hw ⟨v, H2, I2.tok _, rw', q2⟩⟩
/-- a def that is known by its address -/
structure FnV (P : Program) (w : World) (K : PySem.W.Frag) (mg : Str → Option Value) (base : Heap) (k : Nat) (f : Addr) (ps : List Str) (sp : Sp) : Prop where
  ex : ∃ fd, FnOk P w K mg base (CX1 P w) k f fd ps sp ∧ PySem.W.keepIn K (.ref f) = true ∧ Binds K fd ps []
/-- g(..)(e, ..): a def that an expression tells -/
noncomputable def tDo (P : Program) (w : World) (K : PySem.W.Frag) (mg : Str → Option Value) (base : Heap) (k : Nat) (E : XK) (tf : TE) (t : TA) : TE := fun σ H Q => tf σ H fun v H1 => ∃ f ps sp, v = .ref f ∧ FnV P w K mg base k f ps sp ∧ t σ H1 fun vs H2 => sp vs H2 Q E
theorem pe_do {E : XK} {k : Nat} {fn e : Expr} {es : List Expr} {tf : TE} {t : TA} (hf : PE X fn tf) (hr : Room k X.A) (hx : Passes (CX1 X.prog X.w) X E) (ha : PA X (e :: es) t)
    (hc : eval (.Call fn (e :: es) [] pos) X.env = (do callWith pos (← eval fn X.env) [] (backTo pos (starEach (e :: es) X.env)) (backToKw pos (keywordEach [] X.env))))
    (he : starEach (e :: es) X.env = (false, eval e X.env) :: starEach es X.env := by rfl) (hpl : (backTo pos (starEach es X.env)).any (·.1) = false := by rfl) :
    PE X (.Call fn (e :: es) [] pos) (tDo X.prog X.w X.K X.mg X.base k E tf t) := by
  intro pins s σ H Q I h
  refine Call_ (thn (hf pins s σ H _ I h) fun u s1 ⟨x, H1, I1, rx, f, ps, sp, ex, F, q1⟩ => ?_) hc
  subst ex
  obtain rfl : u = Value.ref f := rx
  obtain ⟨fd, ok, hk, hb⟩ := F.ex
  refine PySem.W.callWith_K (h₀ := X.base) I.ok.mod.kin hk (thn (ha pos pins s1 σ H1 _ I1 q1) fun us s2 ⟨vs, H2, I2, r, q⟩ => ⟨I2.kIn, ?_⟩) he hpl
  exact run_fn ok hr hb .nil hx I2 r (by rw [List.append_nil]; exact q)
end
section
variable {X : Cx} {k : Nat} {f C : Addr} {fd : FuncData} {ps : List Str} {sp : Sp} {dvs : List V} {ds : List Value} {m : Str} {p pos apos epos cpos : Pos} {e o : Expr} {es : List Expr} {ta : TE} {t : TA}
/-- o.m(e, ..), whose exceptions are wanted -/
theorem px_meth {pl : Sem Bool} (he : ∀ W, PE (X.wish W) o ta) (c : Cls X.K C) (hm : Meth X.K C m f) (F : FnOk X.prog X.w X.K X.mg X.base (CX1 X.prog X.w) k f fd ps sp) (hr : Room k X.A) (hb : Binds X.K fd ps []) (ha : ∀ W, PA (X.wish W) (e :: es) t)
    (ht : eval (.Call (.Attribute o m apos) (e :: es) [] pos) X.env = (do
      let ov ← eval o X.env
      standAt apos.atName
      let (f, first) ← holding [ov] (getMethod ov m pl)
      callWith pos f first (backTo pos (starEach (e :: es) X.env)) (backToKw pos (keywordEach [] X.env))) := by rfl)
    (hs : starEach (e :: es) X.env = (false, eval e X.env) :: starEach es X.env := by rfl) (hpl : (backTo pos (starEach es X.env)).any (·.1) = false := by rfl) :
    PX X (.Call (.Attribute o m apos) (e :: es) [] pos) (fun E => tMeth C m sp [] E ta t) := by
  intro pins s σ H Q E W I h hx
  refine PySem.W.methodCall_KW (pl := pl) (thn (he W pins s σ H _ (I.wish W) h) fun u s1 ⟨x, H1, I1, rx, a, dx, fs, ex, ea, l, q⟩ => ?_) ht
  subst ex
  obtain rfl : u = Value.ref a := rx
  have I1' : Inv X pins σ H1 s1 := I1.unwish
  refine getmeth_ok I1' ea c hm l ?_
  refine PySem.W.callWith_K (first := [.ref a]) (h₀ := X.base) I.ok.mod.kin hm.kp (thn (ha W pos pins s1 σ H1 _ I1 q) fun us s2 ⟨vs, H2, I2, r, q⟩ => ⟨I2.kIn, ?_⟩) hs hpl
  exact run_fnW (us := .ref a :: us) (vs := .ref a :: vs) F hr hb .nil I2.unwish (.cons rfl r) q fun ev s' z => hx s2 H2 ev s' I2.unwish z
variable {te : XK → TE} {cx n : Str} {np hpos tpos wpos : Pos} {i j : Nat} {b₀ : Stmt} {suite : List Stmt} {ts : TS} {Cc : Addr} {call : Expr}
/-- try: while True: one call; one except -/
noncomputable def tTryLoop (K : PySem.W.Frag) (Cc : Addr) (i : Nat) (te : XK → TE) (ts : TS) : TS := fun D σ H => ∃ W : Nat → Hp → Prop, (∃ m, W m H) ∧ ∀ m H, W m H →
  te (fun cls dct H' => (∃ C, cls = .ref C ∧ PySem.W.mroIn K C (.ref Cc) = some true) ∧ ∀ e, H' e = none →
    ts { nx := fun σ' H' => D.nx (σ'.set i none) H', rt := D.rt, bk := fun σ' H' => D.bk (σ'.set i none) H', ct := fun σ' H' => D.ct (σ'.set i none) H' } (σ.set i (some (.ref e))) (upd H' e (ExcC e cls dct))) σ H fun _ H1 => ∃ m', m' < m ∧ W m' H1
theorem ps_tryLoop (hst : X.stack = X.env :: X.outer) (hfr : X.env.frame = some X.env.locals) (hex : X.ex = []) (hc : PX X call te) (cc : CatchC X.K X.mg cx Cc) (hg : Gl X cx)
    (hN : X.N.Nodup) (hi : X.N[i]? = some n) (hk : X.env.scope.names.lookup n = some .local) (hs : ∀ e, PSs (X.sup e) (b₀ :: suite) ts)
    (htr : isTrue (.Constant (.bool true) j p) X.env (eval (.Constant (.bool true) j p) X.env) = (do let v ← eval (.Constant (.bool true) j p) X.env; standAt p; holding [v] (truthy v)))
    (hd : (cx == ("__debug__" : Str)) = false := by decide) (hsw : swapsWith call none epos.line X.env = pure false := by rfl) :
    PS X (.Try [.While (.Constant (.bool true) j p) [.Expr call epos] [] wpos] [.ExceptHandler (some (.Name cx np)) (some n) (b₀ :: suite) hpos] [] [] tpos) (tTryLoop X.K Cc i te ts) := by
  intro pins s σ H D I ⟨W, ⟨m0, w0⟩, turn⟩
  refine wpAny_Try_except ?_
  have hp : PassesOwn (model X.prog X.w) X.A X.env (fun e s₁ => wpAny (model X.prog X.w) X.A (noteFrame e X.env) (fun _ s₂ => wpAny (model X.prog X.w) X.A (setFlight e none) (fun _ s₃ => wpAny (model X.prog X.w) X.A (handleBy e X.env [.ExceptHandler (some (.Name cx np)) (some n) (b₀ :: suite) hpos]) (SP X pins D) X.xe s₃) X.xe s₂) X.xe s₁) :=
    PassesOwn.looking (K := fun e s₂ => wpAny (model X.prog X.w) X.A (setFlight e none) (fun _ s₃ => wpAny (model X.prog X.w) X.A (handleBy e X.env [.ExceptHandler (some (.Name cx np)) (some n) (b₀ :: suite) hpos]) (SP X pins D) X.xe s₃) X.xe s₂)
  refine wpAny_execs_cons ?_
  refine wpAny_While (codeAny_whileLoop (fun n s' => ∃ H', Inv X pins σ H' s' ∧ W n H') ?_ m0 ⟨H, I, w0⟩)
  rintro k s1 ⟨H1, I1, w1⟩
  rw [htr]
  refine wpAny_passesOwn hp (wpAny_bind (Constant_bool (wpAny_bind (wpAny_standAt (wpAny_holding (wpAny_truthy_bool ?_))))))
  rw [if_pos rfl]
  refine wpAny_passesOwn hp (body_one I1.ok.kind (hc pins s1 σ H1 _ _ _ I1 (turn k H1 w1) fun s2 H2 ev s' I2 z => ?_) (fun s' v H' I' q => ?_) hsw)
  · refine catch_core hst hfr hex I2 z fun e T cls dct H' s3 ee q hHe hHT ae aT nT I3 F3 => ?_
    subst ee
    exact suite_as cc hg hN hi hk (hs e) q.1 hHe hHT ae aT nT I3 F3 (q.2 e hHe) hd
  · obtain ⟨m', hm, w'⟩ := q
    exact ⟨m', hm, H', I', w'⟩
end
end L2

set_option maxHeartbeats 1000000
namespace L2
open PySem PySem.Spec PyProof.Rows
end L2

set_option maxHeartbeats 1000000
namespace L2
open PySem PySem.Spec PyProof.Rows
/-! ### comprehensions that capture nothing; rules whose K is told -/
section
variable {X : Cx} {K : PySem.W.Frag} {a : Expr} {ta : TE}
theorem pe_fldK {f : Str} {pos : Pos} (h : X.K = K) (he : PE X a ta) (hb : attributeBase a f X.env (eval a X.env) = eval a X.env) : PE X (.Attribute a f pos) (tFld K ta f) := by subst h; exact pe_fld he hb
end
end L2
namespace Car
open PySem L2
noncomputable def top (i : Nat) : Stmt := PySem.Challenge.pw_carvebed_k18_whole_loops_and_ways.main.body.getD i (.Pass ⟨0, 0, 0, 0⟩)
theorem same_upd {H : Hp} {p : Addr} (h : H p = none) (o : HO) : Same H (upd H p o) := fun b u q => by rw [upd_ne (ne_of_none q h)]; exact q
section
variable {K : PySem.W.Frag} {H : Hp}
theorem _root_.L2.Rp.tupO {v : V} {ds : List PyData} (h : Rp K H v (.tuple ds)) : ∃ a xs, v = .ref a ∧ SqT K H a xs ∧ Rps K H xs ds := by
  cases h with
  | tup h r => exact ⟨_, _, rfl, h, r⟩
theorem _root_.L2.Rp.lstO {v : V} {ds : List PyData} (h : Rp K H v (.list ds)) : ∃ a xs, v = .ref a ∧ SqL K H a xs ∧ Rps K H xs ds := by
  cases h with
  | lst h r => exact ⟨_, _, rfl, h, r⟩
theorem _root_.L2.Rp.strO {v : V} {x : Str} (h : Rp K H v (.str x)) : v = .str x := by
  cases h; rfl
theorem _root_.L2.Rp.intO {v : V} {i : Int} (h : Rp K H v (.int i)) : v = .int i := by
  cases h; rfl
theorem _root_.L2.Rp.blO {v : V} {b : Bool} (h : Rp K H v (.bool b)) : v = .bl b := by
  cases h; rfl
theorem _root_.L2.Rps.consO {vs : List V} {d : PyData} {ds : List PyData} (h : Rps K H vs (d :: ds)) : ∃ x xs, vs = x :: xs ∧ Rp K H x d ∧ Rps K H xs ds := by
  cases h with
  | cons a b => exact ⟨_, _, rfl, a, b⟩
theorem _root_.L2.Rps.nilO {vs : List V} (h : Rps K H vs []) : vs = [] := by
  cases h; rfl
end
noncomputable def MvAt (H : Hp) : List Addr → List (List V) → Prop
  | [], [] => True
  | t :: ts, m :: ms => H t = some (.tup m) ∧ MvAt H ts ms
  | _, _ => False
theorem MvAt.upd {H : Hp} {q : Addr} {o : HO} (hq : ∀ m, H q ≠ some (.tup m)) : ∀ {ts : List Addr} {ms : List (List V)}, MvAt H ts ms → MvAt (upd H q o) ts ms
  | [], [], _ => True.intro
  | t :: ts, m :: ms, ⟨h, r⟩ => ⟨by rw [upd_ne (fun z => hq m (by rw [← z]; exact h))]; exact h, MvAt.upd hq r⟩
theorem MvAt.same {H H' : Hp} (s : Same H H') : ∀ {ts : List Addr} {ms : List (List V)}, MvAt H ts ms → MvAt H' ts ms
  | [], [], _ => True.intro
  | t :: ts, m :: ms, ⟨h, r⟩ => ⟨s _ _ h, MvAt.same s r⟩
theorem MvAt.snoc {H : Hp} {t : Addr} {m : List V} (h : H t = some (.tup m)) : ∀ {ts : List Addr} {ms : List (List V)}, MvAt H ts ms → MvAt H (ts ++ [t]) (ms ++ [m])
  | [], [], _ => ⟨h, True.intro⟩
  | t :: ts, m :: ms, ⟨h1, r⟩ => ⟨h1, MvAt.snoc h r⟩
theorem MvAt.len {H : Hp} : ∀ {ts : List Addr} {ms : List (List V)}, MvAt H ts ms → ts.length = ms.length
  | [], [], _ => rfl
  | t :: ts, m :: ms, ⟨_, r⟩ => by rw [List.length_cons, List.length_cons, r.len]
theorem same_in {H0 H : Hp} {q : Addr} {o : HO} (s : Same H0 H) (h : H0 q = none) : Same H0 (upd H q o) := fun b u e => by
  rw [upd_ne (ne_of_none e h)]
  exact s b u e
theorem line3 {n c : Nat} (h : n ≤ c) (h2 : c ≤ 2000) : n < sizeLine := Nat.lt_of_le_of_lt (Nat.le_trans h h2) (by decide)
noncomputable def Wd (n : Nat) (Pv : Nat → St → List V → Hp → Prop) (i m : Nat) (σ : St) (acc : List V) (H : Hp) : Prop := m = n - i ∧ i ≤ n ∧ Pv i σ acc H
theorem wd_next {n : Nat} {Pv : Nat → St → List V → Hp → Prop} {i : Nat} {σ : St} {acc : List V} {H : Hp} (h : i < n) (p : Pv (i + 1) σ acc H) : ∃ m', m' < n - i ∧ Wd n Pv (i + 1) m' σ acc H := ⟨n - (i + 1), by omega, rfl, h, p⟩
theorem wd_0 {n : Nat} {Pv : Nat → St → List V → Hp → Prop} {σ : St} {acc : List V} {H : Hp} (h : Pv 0 σ acc H) : ∃ m, Wd n Pv 0 m σ acc H := ⟨n, by simp, Nat.zero_le _, h⟩
end Car
namespace L2
open PySem PySem.Spec PyProof.Rows
/-- a statement and what must hold behind it, whatever way it went -/
noncomputable def tMid (t u : TS) : TS := fun D σ H => ∃ N : St → Hp → Prop, t { D with nx := N } σ H ∧ ∀ σ' H', N σ' H' → u D σ' H'
theorem pss_mid {X : Cx} {st : Stmt} {rest : List Stmt} {t u : TS} (h1 : PS X st t) (h2 : PSs X rest u) : PSs X (st :: rest) (tMid t u) := by
  intro pins s σ H D I ⟨N, h, hN⟩
  refine wpAny_execs_cons (thn (h1 pins s σ H { D with nx := N } I h) fun f s1 q => ?_)
  cases f with
  | next =>
    obtain ⟨σ', H', I', q⟩ := q
    exact h2 pins s1 σ' H' D I' (hN σ' H' q)
  | ret v => exact q
  | brk => exact q
  | cont => exact q
end L2
namespace L2
open PySem PySem.Spec PyProof.Rows
end L2
namespace Car
open PySem L2
theorem bt_min : bootBuiltins "min" = some (.builtin "min") := by decide +kernel
theorem bt_list : bootBuiltins "list" = some (.type "list") := by decide +kernel
theorem bt_int : bootBuiltins "int" = some (.type "int") := by decide +kernel
theorem bt_sum : bootBuiltins "sum" = some (.builtin "sum") := by decide +kernel
structure LawT (mg : Str → Option Value) : Prop where
  len : mg "len" = none
  max : mg "max" = none
  min : mg "min" = none
  range : mg "range" = none
  isin : mg "isinstance" = none
  abs : mg "abs" = none
  tuple : mg "tuple" = none
  list : mg "list" = none
  bool : mg "bool" = none
  int : mg "int" = none
theorem mod_lt (n : Int) {m : Int} (h : 0 < m) : 0 ≤ n % m ∧ n % m < m := ⟨Int.emod_nonneg _ (by omega), Int.emod_lt_of_pos _ h⟩
section
variable {P : Program} {w : World} {K : PySem.W.Frag} {mg : Str → Option Value} {base : Heap} {f : Addr} {fd' : FuncData}
theorem passN {X : Cx} : Passes (CX1 P w) X E0 := fun _ _ _ _ _ _ _ h => by
  obtain ⟨_, _, _, _, _, _, _, _, _, _, _, _, _, _, _, ff⟩ := h
  exact ff.elim
end
/-! ### data that is equal to itself -/
mutual
theorem eqv_self : ∀ d : PyData, PyData.canLay0 d = true → PyData.eqv d d = true
  | .none, _ => by rw [PyData.eqv]
  | .bool b, _ => by rw [PyData.eqv]; simp
  | .int i, _ => by rw [PyData.eqv]; simp
  | .str x, _ => by rw [PyData.eqv]; simp
  | .list xs, h => by rw [PyData.canLay0] at h; rw [PyData.eqv]; exact eqvAll_self xs h
  | .tuple xs, h => by rw [PyData.canLay0] at h; rw [PyData.eqv]; exact eqvAll_self xs h
  | .dict _, h => by rw [PyData.canLay0] at h; cases h
theorem eqvAll_self : ∀ xs : List PyData, PyData.canLayAll0 xs = true → PyData.eqvAll xs xs = true
  | [], _ => by rw [PyData.eqvAll]
  | x :: r, h => by
    rw [PyData.canLayAll0, Bool.and_eq_true] at h
    rw [PyData.eqvAll, eqv_self x h.1, eqvAll_self r h.2]
    rfl
end
theorem le1 : 1 ≤ sizeLine := by decide
theorem le2 : 2 ≤ sizeLine := by decide
theorem le3 : 3 ≤ sizeLine := by decide
section
variable {P : Program} {w : World} {K : PySem.W.Frag} {mg : Str → Option Value} {base : Heap} {f : Addr} {fd' : FuncData}
theorem blkC {X : Cx} {scope : Scope} {own capn : List Str} {capI : List Nat} (sc : Scope) (hsc : X.env.scope = sc) (kind : scope.kind = .function) (h : (scope.names.all fun y => decide (y.2 ≠ .cell) && (decide (y.2 = .local → scope.names.lookup y.1 = some .local) && decide (y.2 = .free → sc.names.lookup y.1 = some .cell))) = true) (caps : capI.map (fun i => X.N[i]?) = capn.map some)
    (capc : ∀ y ∈ capn, X.env.scope.names.lookup y = some .cell ∧ (relabel scope X.env).names.lookup y = some .cell) : BlkScope X scope own capn capI := by
  have g : ∀ y ∈ scope.names, y.2 ≠ .cell ∧ (y.2 = .local → scope.names.lookup y.1 = some .local) ∧ (y.2 = .free → sc.names.lookup y.1 = some .cell) := fun y hy => by
    have := List.all_eq_true.mp h y hy
    rw [Bool.and_eq_true, Bool.and_eq_true] at this
    exact ⟨of_decide_eq_true this.1, of_decide_eq_true this.2.1, of_decide_eq_true this.2.2⟩
  exact ⟨kind, fun y hy => (g y hy).1, fun y hy => (g y hy).2.1, fun y hy e => by rw [hsc]; exact (g y hy).2.2 e, caps, capc⟩
end
end Car
namespace L2
open PySem PySem.Spec PyProof.Rows
end L2
namespace L2
open PySem PySem.Spec PyProof.Rows
section
variable {X : Cx} {pos : Pos}
/-- a, b, .. = a list of that length -/
noncomputable def gLst (K : PySem.W.Frag) (n : Nat) (t : TGs) : TG := fun v σ H Q => ∃ a xs, v = .ref a ∧ SqL K H a xs ∧ xs.length = n ∧ t xs σ H Q
theorem pg_lst {es : List Expr} {k : Nat} {t : TGs} {n : Nat} (hc : X.calm = true) (h : PGs X es t)
    (hn : (assignEach es X.env).length = n := by rfl) (hst : (assignEach es X.env).findIdx? (·.1) = none := by rfl) : PG X (.Tuple es k pos) (gLst X.K n t) := by
  intro pins s σ H v u Q I r hw
  obtain ⟨a, xs, e1, hq, hl, hw⟩ := hw
  subst e1
  cases r
  obtain ⟨its, rv, ⟨o, m, e, c, c2, d⟩, hz⟩ := I.list hq
  have ht : s.heap.IsList a its.toArray := ⟨o, e, c, m, d⟩
  rw [assign_Tuple]
  refine wpAny_bind (wpAny_standAt ?_)
  unfold unpack
  rw [show (assignEach es X.env).length = its.toArray.size by simp [hn, ← hl, rv.length], hst]
  refine wpAny_bind (wpAny_holding (PySem.W.kun_itemsOf (I.ok.hd hc) ht fun h' hx => ?_))
  have I1 : Inv X pins σ H { s with heap := h' } := I.kept (t' := s.toks) fun b o e => hx b o (Nat.ne_of_lt (Heap.lt_size e)) e
  exact h pins _ σ H xs _ Q I1 (by simpa using rv) hw
end
end L2

set_option maxHeartbeats 1000000
namespace Car
open PySem L2
noncomputable abbrev sStopI : Stmt := inClass (top 5) 0
noncomputable abbrev sIsBig : Stmt := top 6
noncomputable abbrev sBounded : Stmt := top 7
noncomputable abbrev sJoined : Stmt := top 8
noncomputable abbrev sDepth : Stmt := top 9
noncomputable abbrev sTrackI : Stmt := inClass (top 10) 0
noncomputable abbrev sOne : Stmt := inClass (top 10) 1
noncomputable abbrev sMHold : Stmt := inClass (top 10) 2
noncomputable abbrev sMMove : Stmt := inClass (top 10) 3
noncomputable abbrev dBig : PyData := .tuple [.str "big"]
noncomputable abbrev dUnknown (x : Str) : PyData := .tuple [.str "unknown", .str x]
noncomputable def jn (s : Str) (i j : Int) : Int := if s = "+" then i + j else if s = "-" then i - j else i * j
noncomputable def bnd (i : Int) : Except PyData Int := if -1000000 ≤ i ∧ i ≤ 1000000 then .ok i else .error dBig
theorem bnd_ok {i k : Int} (h : bnd i = .ok k) : k = i ∧ -1000000 ≤ i ∧ i ≤ 1000000 := by
  unfold bnd at h
  split at h
  · rename_i c
    cases h
    exact ⟨rfl, c⟩
  · cases h
noncomputable abbrev dLong : PyData := .tuple [.str "long"]
noncomputable abbrev dDone : PyData := .tuple [.str "done"]
noncomputable abbrev dDeep : PyData := .tuple [.str "deep"]
noncomputable def XE (K : PySem.W.Frag) (C : Addr) (H : Hp) (E : XK) (d : PyData) : Prop := ∀ (dx : Addr) (v : V) (H' : Hp), Same H H' → H' dx = some (.xd [("end", v)]) → Rp K H' v d → E (.ref C) (some dx) H'
noncomputable def spStop (C : Addr) : Sp := fun vs H Q _ => ∃ e y, vs = [.ref e, y] ∧ H e = some (ExcN e C) ∧ ∀ dx, H dx = none → Q .non (upd (upd H dx (.xd [("end", y)])) e (ExcD e C dx))
theorem stop_ok {K : PySem.W.Frag} {C p : Addr} {H : Hp} {E : XK} {d : PyData} {o : HO} (hp : H p = none) (hd : Rp K (upd H p o) (.ref p) d) (h : XE K C H E d) : ∀ e, upd H p o e = none → spStop C [.ref e, .ref p] (upd (upd H p o) e (ExcN e C)) (fun v H2 => v = .non ∧ ∃ dx, H2 e = some (ExcD e C dx) ∧ E (.ref C) (some dx) (drop H2 e)) E0 := by
  intro e he
  have hep : e ≠ p := fun z => by rw [z, upd_same] at he; cases he
  refine ⟨e, .ref p, rfl, upd_same, fun dx hdx => ⟨rfl, dx, upd_same, ?_⟩⟩
  have hde : dx ≠ e := fun z => by rw [z, upd_same] at hdx; cases hdx
  have hd1 : upd H p o dx = none := by rw [upd_ne hde] at hdx; exact hdx
  have s2 : Same (upd H p o) (drop (upd (upd (upd (upd H p o) e (ExcN e C)) dx (.xd [("end", .ref p)])) e (ExcD e C dx)) e) := fun b u q => by
    have b1 : b ≠ e := ne_of_none q he
    have b2 : b ≠ dx := ne_of_none q hd1
    rw [drop_ne b1, upd_ne b1, upd_ne b2, upd_ne b1]
    exact q
  refine h dx (.ref p) _ ((same_upd hp o).trans s2) ?_ (hd.same s2)
  rw [drop_ne hde, upd_ne hde, upd_same]

/-! ### names and their numbers -/
noncomputable abbrev Nm := List (Str × Int)
noncomputable def envD (n : Nm) : List (Key × V) := n.map fun p => (Sum.inr p.1, V.int p.2)
noncomputable def look (n : Nm) (x : Str) : Option Int := (n.find? fun p => decide (p.1 = x)).map (·.2)
noncomputable def put (n : Nm) (x : Str) (i : Int) : Nm := if (n.any fun p => decide (p.1 = x)) = true then n.map (fun p => if p.1 = x then (p.1, i) else p) else n ++ [(x, i)]
theorem inr_eq (a x : Str) : ((Sum.inr a : Key) = Sum.inr x) = (a = x) := by simp
theorem valV_env (n : Nm) (x : Str) : valV (envD n) (Sum.inr x : Key) = (look n x).map V.int := by
  induction n with
  | nil => rfl
  | cons p r ih =>
    by_cases e : p.1 = x
    · rw [show envD (p :: r) = (Sum.inr p.1, V.int p.2) :: envD r from rfl, valV_pos (p := ((Sum.inr p.1 : Key), V.int p.2)) (by rw [inr_eq]; exact e)]
      simp [look, List.find?_cons, e]
    · rw [show envD (p :: r) = (Sum.inr p.1, V.int p.2) :: envD r from rfl, valV_neg (p := ((Sum.inr p.1 : Key), V.int p.2)) (by rw [inr_eq]; exact e), ih]
      simp [look, List.find?_cons, e]
theorem putK_env (n : Nm) (x : Str) (i : Int) : putK (envD n) (Sum.inr x : Key) (V.int i) = envD (put n x i) := by
  unfold putK put
  have h : ((envD n).any fun kv => decide (kv.1 = (Sum.inr x : Key))) = n.any fun p => decide (p.1 = x) := by
    unfold envD
    rw [List.any_map]
    congr 1
    funext p
    simp
  rw [h]
  split
  · unfold envD
    rw [List.map_map, List.map_map]
    congr 1
    funext p
    by_cases e : p.1 = x
    · simp [e]
    · simp [e]
  · unfold envD
    rw [List.map_append]
    rfl
theorem len_put (n : Nm) (x : Str) (i : Int) : (put n x i).length ≤ n.length + 1 := by
  unfold put
  split
  · rw [List.length_map]; omega
  · rw [List.length_append]; simp
theorem look_put (n : Nm) (x y : Str) (i : Int) : look (put n x i) y = if y = x then some i else look n y := by
  have h1 := valV_env (put n x i) y
  rw [← putK_env, valV_put, valV_env] at h1
  simp only [inr_eq] at h1
  by_cases e : y = x
  · rw [if_pos e] at h1 ⊢
    cases q : look (put n x i) y with
    | none => rw [q] at h1; cases h1
    | some j => rw [q] at h1; cases h1; rfl
  · rw [if_neg e] at h1 ⊢
    cases q : look (put n x i) y with
    | none =>
      rw [q] at h1
      cases q2 : look n y with
      | none => rfl
      | some j => rw [q2] at h1; cases h1
    | some j =>
      rw [q] at h1
      cases q2 : look n y with
      | none => rw [q2] at h1; cases h1
      | some k => rw [q2] at h1; cases h1; rfl

/-! ### data, opened -/
noncomputable def PlOk (n : Nm) : Prop := n.map (fun p => p.1) = ([("x" : Str), "y", "z"] : List Str)
theorem put_keys {n : Nm} {a : Str} (i : Int) (h : a ∈ n.map (·.1)) : (put n a i).map (·.1) = n.map (·.1) := by
  unfold put
  rw [if_pos (List.any_eq_true.mpr (by obtain ⟨p, hp, e⟩ := List.mem_map.mp h; exact ⟨p, hp, decide_eq_true e⟩)), List.map_map]
  congr 1
  funext p
  by_cases e : p.1 = a
  · simp [e]
  · simp [e]
theorem PlOk.put {n : Nm} (h : PlOk n) {a : Str} (ha : a = "x" ∨ a = "y" ∨ a = "z") (i : Int) : PlOk (put n a i) := by
  unfold PlOk at h ⊢
  rw [put_keys i (by rw [h]; rcases ha with rfl | rfl | rfl <;> simp), h]
theorem PlOk.look {n : Nm} (h : PlOk n) {a : Str} (ha : a = "x" ∨ a = "y" ∨ a = "z") : ∃ i, look n a = some i := by
  have hm : a ∈ n.map (·.1) := by
    unfold PlOk at h
    rw [h]
    rcases ha with rfl | rfl | rfl <;> simp
  unfold Car.look
  cases q : n.find? fun p => decide (p.1 = a) with
  | some p => exact ⟨p.2, rfl⟩
  | none =>
    obtain ⟨p, hp, e⟩ := List.mem_map.mp hm
    have := List.find?_eq_none.mp q p hp
    simp [e] at this
theorem PlOk.len {n : Nm} (h : PlOk n) : n.length = 3 := by
  have := congrArg List.length h
  simpa using this

section
variable {P : Program} {w : World} {K : PySem.W.Frag} {mg : Str → Option Value} {base : Heap} {C fI f : Addr} {fd : FuncData}
theorem scStopI : FnScope ["self", "end"] ["self", "end"] (defScope sStopI) := ⟨rfl, rfl, rfl, by decide +kernel, rfl, by decide +kernel, by decide +kernel⟩
theorem ok_stop {k : Nat} (S : StopC K mg "Stop" C fI "end") (F : Fun K "__init__" "Stop.__init__" sStopI f fd) : FnOk P w K mg base (CX1 P w) (k + 1) f fd ["self", "end"] (spStop C) := by
  refine F.ok1 scStopI (fun vs H Q E h => ?_) (fun cdv A outer s H vs Q E hr h => ?_)
  · obtain ⟨e, y, rfl, _⟩ := h
    rfl
  obtain ⟨e, y, rfl, he, q⟩ := h
  refine ⟨_, pss_one (ps_xset S (pv 0) (pv 1) rfl), ?_⟩
  exact ⟨_, rfl, _, rfl, e, rfl, he, q⟩

/-- what a text with stops gives -/
structure StopT (P : Program) (w : World) (K : PySem.W.Frag) (mg : Str → Option Value) (base : Heap) (C fI : Addr) (fd : FuncData) : Prop where
  S : StopC K mg "Stop" C fI "end"
  ok : FnOk P w K mg base (CX1 P w) 1 fI fd ["self", "end"] (spStop C)
  bi : Binds K fd ["self", "end"] []
  num : ∃ t, mg "MOST_NUMBER" = some (.int 1000000 t)

/-! ### is_big, bounded -/
noncomputable def spIsBig : Sp := fun vs H Q _ => ∃ i : Int, vs = [.int i] ∧ Q (.bl (decide (¬ (-1000000 ≤ i ∧ i ≤ 1000000)))) H
theorem scIsBig : FnScope ["number"] ["number"] (defScope sIsBig) := ⟨rfl, rfl, rfl, by decide +kernel, rfl, by decide +kernel, by decide +kernel⟩
theorem ok_isBig (hn : ∃ t, mg "MOST_NUMBER" = some (.int 1000000 t)) (F : Fun K "is_big" "is_big" sIsBig f fd) : FnOk P w K mg base (CX1 P w) 1 f fd ["number"] spIsBig := by
  refine F.ok1 scIsBig (fun vs H Q E h => ?_) (fun cdv A outer s H vs Q E hr h => ?_)
  · obtain ⟨i, rfl, _⟩ := h
    rfl
  obtain ⟨i, rfl, q⟩ := h
  obtain ⟨tk, hnum⟩ := hn
  refine ⟨_, pss_one (ps_ret (pe_or (pe_cmpR op_gt (pv 0) (pe_glob (v := .int 1000000) rfl hnum ⟨_, rfl⟩) (nomark _)) (pe_one (pe_cmpR op_lt (pv 0) (pe_un un_neg (pe_glob (v := .int 1000000) rfl hnum ⟨_, rfl⟩)) (nomark _))))), ?_⟩
  refine ⟨_, rfl, _, _, rfl, rfl, _, rfl, ?_⟩
  refine ite2 (fun c => ?_) (fun c => ?_)
  · have c' : (1000000 : Int) < i := of_decide_eq_true c
    rw [decide_eq_true (show ¬ (-1000000 ≤ i ∧ i ≤ 1000000) by omega)] at q
    exact q
  · have c' : ¬ (1000000 : Int) < i := of_decide_eq_false (Bool.eq_false_iff.mpr c)
    refine ⟨_, rfl, _, rfl, _, _, rfl, rfl, ?_⟩
    rw [show decide (¬ (-1000000 ≤ i ∧ i ≤ 1000000)) = decide (i < -1000000) from decide_eq_decide.mpr (by omega)] at q
    exact q
noncomputable def spBounded (K : PySem.W.Frag) (C : Addr) : Sp := fun vs H Q E => ∃ i, vs = [.int i] ∧ match bnd i with | .ok i => Q (.int i) H | .error d => XE K C H E d
theorem scBounded : FnScope ["number"] ["number"] (defScope sBounded) := ⟨rfl, rfl, rfl, by decide +kernel, rfl, by decide +kernel, by decide +kernel⟩
theorem ok_bounded (S : StopT P w K mg base C fI fd) (FI : Fn P w K mg base "is_big" 1 ["number"] spIsBig) {f : Addr} {fd' : FuncData} (F : Fun K "bounded" "bounded" sBounded f fd') : FnOk P w K mg base (CX1 P w) 3 f fd' ["number"] (spBounded K C) := by
  refine F.ok1 scBounded (fun vs H Q E h => ?_) (fun cdv A outer s H vs Q E hr h => ?_)
  · obtain ⟨i, rfl, _⟩ := h
    rfl
  obtain ⟨i, rfl, q⟩ := h
  have hr1 : Room 1 _ := hr.mono (by decide)
  refine ⟨_, pss_cons (ps_if (pt_truth (pf_call FI hr1 rfl (pass1 (E := E)) (pa_cons (pv 0) pa_nil)) (fun _ => rfl))
    (pss_one (ps_raiseI S.S rfl rfl rfl flies1 S.ok hr S.bi (pa_cons (pe_tup (pa_cons pe_str pa_nil)) pa_nil))) pss_nil)
    (pss_one (ps_ret (pv 0))), ?_⟩
  refine ⟨_, rfl, i, rfl, _, rfl, ?_⟩
  refine ite2 (fun c => ?_) (fun c => ?_)
  · have c' : ¬ (-1000000 ≤ i ∧ i ≤ 1000000) := of_decide_eq_true c
    rw [show bnd i = .error dBig by unfold bnd; rw [if_neg c']] at q
    refine ⟨by show 1 ≤ sizeLine; decide, fun p hp => ⟨by show 1 ≤ sizeLine; decide, ?_⟩⟩
    exact stop_ok hp (.tup (SqT.of upd_same) (.cons (.str _) .nil)) q
  · have c' : -1000000 ≤ i ∧ i ≤ 1000000 := by
      have := of_decide_eq_false (Bool.eq_false_iff.mpr c)
      omega
    rw [show bnd i = .ok i by unfold bnd; rw [if_pos c']] at q
    exact ⟨_, rfl, q⟩
/-! ### joined -/
noncomputable def spJoined : Sp := fun vs H Q _ => ∃ s i j, vs = [.str s, .int i, .int j] ∧ CMulB i j ∧ Q (.int (jn s i j)) H
theorem scJoined : FnScope ["sign", "first", "second"] ["sign", "first", "second"] (defScope sJoined) := ⟨rfl, rfl, rfl, by decide +kernel, rfl, by decide +kernel, by decide +kernel⟩
theorem ok_joined (F : Fun K "joined" "joined" sJoined f fd) : FnOk P w K mg base (CX1 P w) 1 f fd ["sign", "first", "second"] spJoined := by
  refine F.ok1 scJoined (fun vs H Q E h => ?_) (fun cdv A outer s H vs Q E hr h => ?_)
  · obtain ⟨x, d, n, rfl, _⟩ := h
    rfl
  obtain ⟨s, i, j, rfl, hi, q⟩ := h
  refine ⟨_, pss_cons (ps_if (pt_cmpR op_eq (pv 0) pe_str (nomark _)) (pss_one (ps_ret (pe_op op_add (pv 1) (pv 2)))) pss_nil)
    (pss_cons (ps_if (pt_cmpR op_eq (pv 0) pe_str (nomark _)) (pss_one (ps_ret (pe_op op_sub (pv 1) (pv 2)))) pss_nil)
    (pss_one (ps_ret (pe_op op_mulB (pv 1) (pv 2))))), ?_⟩
  refine ⟨_, rfl, rfl, _, rfl, ?_⟩
  refine ite2 (fun c => ?_) (fun c => ?_)
  · have c' : V.str s = V.str "+" := of_decide_eq_true c
    cases c'
    exact ⟨_, rfl, _, rfl, _, _, rfl, rfl, q⟩
  · have c' : ¬ V.str s = V.str "+" := of_decide_eq_false (Bool.eq_false_iff.mpr c)
    have c1 : ¬ s = "+" := fun z => c' (by rw [z])
    refine ⟨_, rfl, rfl, _, rfl, ?_⟩
    refine ite2 (fun c => ?_) (fun c => ?_)
    · have c' : V.str s = V.str "-" := of_decide_eq_true c
      cases c'
      exact ⟨_, rfl, _, rfl, _, _, rfl, rfl, q⟩
    · have c' : ¬ V.str s = V.str "-" := of_decide_eq_false (Bool.eq_false_iff.mpr c)
      have c2 : ¬ s = "-" := fun z => c' (by rw [z])
      refine ⟨_, rfl, _, rfl, _, _, rfl, rfl, hi, ?_⟩
      unfold jn at q
      rw [if_neg c1, if_neg c2] at q
      exact q

/-! ### look_at_depth -/
noncomputable def spDepth (K : PySem.W.Frag) (C : Addr) : Sp := fun vs H Q E => ∃ n : Int, vs = [.int n] ∧ if 10 ≤ n then XE K C H E dDeep else Q .non H
theorem scDepth : FnScope ["calls_before"] ["calls_before"] (defScope sDepth) := ⟨rfl, rfl, rfl, by decide +kernel, rfl, by decide +kernel, by decide +kernel⟩
theorem ok_depth (S : StopT P w K mg base C fI fd) (hn : ∃ t, mg "MOST_CALLS" = some (.int 10 t)) {f : Addr} {fd' : FuncData} (F : Fun K "look_at_depth" "look_at_depth" sDepth f fd') : FnOk P w K mg base (CX1 P w) 3 f fd' ["calls_before"] (spDepth K C) := by
  refine F.ok1 scDepth (fun vs H Q E h => ?_) (fun cdv A outer s H vs Q E hr h => ?_)
  · obtain ⟨i, rfl, _⟩ := h
    rfl
  obtain ⟨n, rfl, q⟩ := h
  obtain ⟨tk, hnum⟩ := hn
  refine ⟨_, pss_one (ps_if (pt_cmpR op_ge (pv 0) (pe_glob (v := .int 10) rfl hnum ⟨_, rfl⟩) (nomark _))
    (pss_one (ps_raiseI S.S rfl rfl rfl flies1 S.ok hr S.bi (pa_cons (pe_tup (pa_cons pe_str pa_nil)) pa_nil))) pss_nil), ?_⟩
  refine ⟨_, rfl, _, _, rfl, rfl, _, rfl, ?_⟩
  refine ite2 (fun c => ?_) (fun c => ?_)
  · rw [if_pos (of_decide_eq_true c)] at q
    refine ⟨by show 1 ≤ sizeLine; decide, fun p hp => ⟨by show 1 ≤ sizeLine; decide, ?_⟩⟩
    exact stop_ok hp (.tup (SqT.of upd_same) (.cons (.str _) .nil)) q
  · rw [if_neg (of_decide_eq_false (Bool.eq_false_iff.mpr c))] at q
    exact q
end
end Car

set_option maxHeartbeats 1000000
namespace Car
open PySem L2
/-! ### the machine on the heap -/
noncomputable abbrev fM (k : Int) (hp fr rt t : Addr) : List (Str × V) := [("place", .int k), ("heap", .ref hp), ("frames", .ref fr), ("returns", .ref rt), ("track", .ref t)]
noncomputable abbrev fT (mv pl : Addr) (c : Int) : List (Str × V) := [("moves", .ref mv), ("places", .ref pl), ("counted", .int c)]
noncomputable def Bg (i : Int) : Prop := i.natAbs < 2 ^ 200
structure MS where
  pl : Int
  hp : List Int
  fr : List Nm
  rt : List Int
  mv : List (List V)
  st : Nm
  cnt : Nat
structure MA where
  p : Addr
  dx : Addr
  hp : Addr
  fr : Addr
  rt : Addr
  t : Addr
  tdx : Addr
  mv : Addr
  pl : Addr
  ds : List Addr
noncomputable def MA.out (A : MA) (q : Addr) : Prop := q ≠ A.p ∧ q ≠ A.hp ∧ q ≠ A.fr ∧ q ≠ A.rt ∧ q ≠ A.t ∧ q ≠ A.mv ∧ q ≠ A.pl ∧ q ∉ A.ds
structure Ap (H0 : Hp) (A : MA) : Prop where
  np : H0 A.p = none
  nhp : H0 A.hp = none
  nfr : H0 A.fr = none
  nrt : H0 A.rt = none
  nt : H0 A.t = none
  nmv : H0 A.mv = none
  npl : H0 A.pl = none
  nds : ∀ a ∈ A.ds, H0 a = none
  ndd : A.ds.Nodup
  pd : A.pl ∉ A.ds
  pt : A.p ≠ A.t
  l1 : A.hp ≠ A.fr
  l2 : A.hp ≠ A.rt
  l3 : A.hp ≠ A.mv
  l4 : A.fr ≠ A.rt
  l5 : A.fr ≠ A.mv
  l6 : A.rt ≠ A.mv
noncomputable def FrAt (H : Hp) (c : Nat) : List Addr → List Nm → Prop
  | [], [] => True
  | d :: ds, n :: ns => (H d = some (.dK (envD n)) ∧ (∀ p ∈ n, Bg p.2) ∧ n.length ≤ c + 1000 ∧ ns.length ≤ c) ∧ FrAt H c ds ns
  | _, _ => False
theorem FrAt.same {H H' : Hp} {c : Nat} (s : Same H H') : ∀ {ds : List Addr} {ns : List Nm}, FrAt H c ds ns → FrAt H' c ds ns
  | [], [], _ => True.intro
  | _ :: _, _ :: _, h => ⟨⟨s _ _ h.1.1, h.1.2⟩, FrAt.same s h.2⟩
  | [], _ :: _, h => h.elim
  | _ :: _, [], h => h.elim
theorem FrAt.upd {H : Hp} {c : Nat} {q : Addr} {o : HO} : ∀ {ds : List Addr} {ns : List Nm}, q ∉ ds → FrAt H c ds ns → FrAt (upd H q o) c ds ns
  | [], [], _, _ => True.intro
  | d :: _, _ :: _, n, h => ⟨⟨by rw [upd_ne (fun z => n (by simp [z]))]; exact h.1.1, h.1.2⟩, FrAt.upd (fun z => n (List.mem_cons_of_mem _ z)) h.2⟩
  | [], _ :: _, _, h => h.elim
  | _ :: _, [], _, h => h.elim
theorem FrAt.more {H : Hp} {c c' : Nat} (l : c ≤ c') : ∀ {ds : List Addr} {ns : List Nm}, FrAt H c ds ns → FrAt H c' ds ns
  | [], [], _ => True.intro
  | _ :: _, _ :: _, h => ⟨⟨h.1.1, h.1.2.1, by have := h.1.2.2; omega⟩, FrAt.more l h.2⟩
  | [], _ :: _, h => h.elim
  | _ :: _, [], h => h.elim
theorem FrAt.mem {H : Hp} {c : Nat} : ∀ {ds : List Addr} {ns : List Nm}, FrAt H c ds ns → ∀ d ∈ ds, ∃ kvs, H d = some (.dK kvs)
  | d :: ds, n :: ns, h, x, hx => by
    rcases List.mem_cons.mp hx with rfl | hx
    · exact ⟨_, h.1.1⟩
    · exact FrAt.mem h.2 x hx
  | [], [], _, x, hx => by cases hx
theorem FrAt.len {H : Hp} {c : Nat} : ∀ {ds : List Addr} {ns : List Nm}, FrAt H c ds ns → ds.length = ns.length ∧ ns.length ≤ c + 1
  | [], [], _ => ⟨rfl, Nat.zero_le _⟩
  | d :: ds, n :: ns, h => by
    have := FrAt.len h.2
    have := h.1.2.2.2
    simp only [List.length_cons]
    omega
  | [], _ :: _, h => h.elim
  | _ :: _, [], h => h.elim
structure MIn (CM CT : Addr) (H0 H : Hp) (A : MA) (S : MS) (c : Nat) : Prop where
  ap : Ap H0 A
  same : Same H0 H
  run : H A.p = some (.ins CM A.dx (fM S.pl A.hp A.fr A.rt A.t))
  hp : H A.hp = some (.lst (S.hp.reverse.map V.int))
  fr : H A.fr = some (.lst (A.ds.reverse.map V.ref))
  rt : H A.rt = some (.lst (S.rt.reverse.map V.int))
  tr : H A.t = some (.ins CT A.tdx (fT A.mv A.pl (S.cnt : Int)))
  mv : ∃ ts : List Addr, H A.mv = some (.lst (ts.map V.ref)) ∧ MvAt H ts S.mv
  pl : H A.pl = some (.dK (envD S.st))
  plk : PlOk S.st
  en : FrAt H c A.ds S.fr
  big : ∀ i ∈ S.hp, Bg i
  le : S.hp.length ≤ c ∧ S.mv.length ≤ c ∧ S.rt.length ≤ c ∧ c ≤ 1000000 ∧ S.cnt ≤ 2000
section
variable {CM CT : Addr} {H0 H H' : Hp} {A : MA} {S : MS} {c : Nat}
theorem MIn.same' (M : MIn CM CT H0 H A S c) (s : Same H H') : MIn CM CT H0 H' A S c :=
  ⟨M.ap, M.same.trans s, s _ _ M.run, s _ _ M.hp, s _ _ M.fr, s _ _ M.rt, s _ _ M.tr, let ⟨ts, a, b⟩ := M.mv; ⟨ts, s _ _ a, b.same s⟩, s _ _ M.pl, M.plk, M.en.same s, M.big, M.le⟩
theorem MIn.up (M : MIn CM CT H0 H A S c) {c' : Nat} (h : c ≤ c') (h' : c' ≤ 1000000) : MIn CM CT H0 H A S c' :=
  ⟨M.ap, M.same, M.run, M.hp, M.fr, M.rt, M.tr, M.mv, M.pl, M.plk, M.en.more h, M.big, by have := M.le; omega⟩
theorem MIn.out (M : MIn CM CT H0 H A S c) {q : Addr} (h : H q = none) : A.out q := by
  obtain ⟨ts, m1, _⟩ := M.mv
  refine ⟨?_, ?_, ?_, ?_, ?_, ?_, ?_, fun z => ?_⟩
  · rintro rfl; rw [M.run] at h; cases h
  · rintro rfl; rw [M.hp] at h; cases h
  · rintro rfl; rw [M.fr] at h; cases h
  · rintro rfl; rw [M.rt] at h; cases h
  · rintro rfl; rw [M.tr] at h; cases h
  · rintro rfl; rw [m1] at h; cases h
  · rintro rfl; rw [M.pl] at h; cases h
  · obtain ⟨_, e⟩ := M.en.mem q z
    rw [e] at h
    cases h
/-- a thing of others is changed -/
theorem MIn.updq (M : MIn CM CT H0 H A S c) {q : Addr} {o : HO} (ho : A.out q) (h0 : H0 q = none) (nt : ∀ m, H q ≠ some (.tup m)) : MIn CM CT H0 (upd H q o) A S c := by
  obtain ⟨o1, o2, o3, o4, o5, o6, o7, o8⟩ := ho
  obtain ⟨ts, m1, m2⟩ := M.mv
  exact ⟨M.ap, same_in M.same h0, by rw [upd_ne (Ne.symm o1)]; exact M.run, by rw [upd_ne (Ne.symm o2)]; exact M.hp, by rw [upd_ne (Ne.symm o3)]; exact M.fr, by rw [upd_ne (Ne.symm o4)]; exact M.rt, by rw [upd_ne (Ne.symm o5)]; exact M.tr,
    ⟨ts, by rw [upd_ne (Ne.symm o6)]; exact m1, m2.upd nt⟩, by rw [upd_ne (Ne.symm o7)]; exact M.pl, M.plk, M.en.upd o8, M.big, M.le⟩
theorem MIn.setp (M : MIn CM CT H0 H A S c) (k : Int) : MIn CM CT H0 (upd H A.p (.ins CM A.dx (fM k A.hp A.fr A.rt A.t))) A { S with pl := k } c := by
  obtain ⟨ts, m1, m2⟩ := M.mv
  have kp : ∀ b u, H b = some u → (∀ C dx fs, u ≠ .ins C dx fs) → upd H A.p (.ins CM A.dx (fM k A.hp A.fr A.rt A.t)) b = some u := fun b u e hu => by
    rw [upd_ne (fun z => by rw [z, M.run] at e; cases e; exact hu _ _ _ rfl)]; exact e
  exact ⟨M.ap, same_in M.same M.ap.np, upd_same, kp _ _ M.hp (fun _ _ _ z => by cases z), kp _ _ M.fr (fun _ _ _ z => by cases z), kp _ _ M.rt (fun _ _ _ z => by cases z), by rw [upd_ne (Ne.symm M.ap.pt)]; exact M.tr,
    ⟨ts, kp _ _ m1 (fun _ _ _ z => by cases z), m2.upd (fun m e => by rw [M.run] at e; cases e)⟩, kp _ _ M.pl (fun _ _ _ z => by cases z), M.plk, M.en.upd (fun z => by obtain ⟨_, e⟩ := M.en.mem _ z; rw [M.run] at e; cases e), M.big, M.le⟩
theorem MIn.setc (M : MIn CM CT H0 H A S c) (k : Nat) (hk : k ≤ 2000) : MIn CM CT H0 (upd H A.t (.ins CT A.tdx (fT A.mv A.pl (k : Int)))) A { S with cnt := k } c := by
  obtain ⟨ts, m1, m2⟩ := M.mv
  have kp : ∀ b u, H b = some u → (∀ C dx fs, u ≠ .ins C dx fs) → upd H A.t (.ins CT A.tdx (fT A.mv A.pl (k : Int))) b = some u := fun b u e hu => by
    rw [upd_ne (fun z => by rw [z, M.tr] at e; cases e; exact hu _ _ _ rfl)]; exact e
  exact ⟨M.ap, same_in M.same M.ap.nt, by rw [upd_ne M.ap.pt]; exact M.run, kp _ _ M.hp (fun _ _ _ z => by cases z), kp _ _ M.fr (fun _ _ _ z => by cases z), kp _ _ M.rt (fun _ _ _ z => by cases z), upd_same,
    ⟨ts, kp _ _ m1 (fun _ _ _ z => by cases z), m2.upd (fun m e => by rw [M.tr] at e; cases e)⟩, kp _ _ M.pl (fun _ _ _ z => by cases z), M.plk, M.en.upd (fun z => by obtain ⟨_, e⟩ := M.en.mem _ z; rw [M.tr] at e; cases e), M.big, ⟨M.le.1, M.le.2.1, M.le.2.2.1, M.le.2.2.2.1, hk⟩⟩
theorem MIn.seth (M : MIn CM CT H0 H A S c) (h : List Int) (hb : ∀ i ∈ h, Bg i) (hl : h.length ≤ c) : MIn CM CT H0 (upd H A.hp (.lst (h.reverse.map V.int))) A { S with hp := h } c := by
  obtain ⟨ts, m1, m2⟩ := M.mv
  have kp : ∀ b u, H b = some u → (∀ xs, u ≠ .lst xs) → upd H A.hp (.lst (h.reverse.map V.int)) b = some u := fun b u e hu => by
    rw [upd_ne (fun z => by rw [z, M.hp] at e; cases e; exact hu _ rfl)]; exact e
  exact ⟨M.ap, same_in M.same M.ap.nhp, kp _ _ M.run (fun _ z => by cases z), upd_same, by rw [upd_ne (Ne.symm M.ap.l1)]; exact M.fr, by rw [upd_ne (Ne.symm M.ap.l2)]; exact M.rt, kp _ _ M.tr (fun _ z => by cases z),
    ⟨ts, by rw [upd_ne (Ne.symm M.ap.l3)]; exact m1, m2.upd (fun m e => by rw [M.hp] at e; cases e)⟩, kp _ _ M.pl (fun _ z => by cases z), M.plk, M.en.upd (fun z => by obtain ⟨_, e⟩ := M.en.mem _ z; rw [M.hp] at e; cases e), hb, ⟨hl, M.le.2⟩⟩
theorem MIn.putp (M : MIn CM CT H0 H A S c) {a : Str} {i : Int} (ha : a = "x" ∨ a = "y" ∨ a = "z") : MIn CM CT H0 (upd H A.pl (.dK (envD (put S.st a i)))) A { S with st := put S.st a i } c := by
  obtain ⟨ts, m1, m2⟩ := M.mv
  have kp : ∀ b u, H b = some u → (∀ kvs, u ≠ .dK kvs) → upd H A.pl (.dK (envD (put S.st a i))) b = some u := fun b u e hu => by
    rw [upd_ne (fun z => by rw [z, M.pl] at e; cases e; exact hu _ rfl)]; exact e
  exact ⟨M.ap, same_in M.same M.ap.npl, kp _ _ M.run (fun _ z => by cases z), kp _ _ M.hp (fun _ z => by cases z), kp _ _ M.fr (fun _ z => by cases z), kp _ _ M.rt (fun _ z => by cases z), kp _ _ M.tr (fun _ z => by cases z),
    ⟨ts, kp _ _ m1 (fun _ z => by cases z), m2.upd (fun m e => by rw [M.pl] at e; cases e)⟩, upd_same, M.plk.put ha i, M.en.upd M.ap.pd, M.big, M.le⟩
theorem MIn.say (M : MIn CM CT H0 H A S c) {t : Addr} {m : List V} {ts : List Addr} (m1 : H A.mv = some (.lst (ts.map V.ref))) (m2 : MvAt H ts S.mv) (ht : H t = none) (hl : S.mv.length < c) :
    MIn CM CT H0 (upd (upd H t (.tup m)) A.mv (.lst (ts.map V.ref ++ [.ref t]))) A { S with mv := S.mv ++ [m] } c := by
  have s1 : Same H (upd H t (.tup m)) := same_upd ht _
  have M1 := M.same' s1
  have e1 : upd H t (.tup m) A.mv = some (.lst (ts.map V.ref)) := s1 _ _ m1
  have kp : ∀ b u, upd H t (.tup m) b = some u → (∀ xs, u ≠ .lst xs) → upd (upd H t (.tup m)) A.mv (.lst (ts.map V.ref ++ [.ref t])) b = some u := fun b u e hu => by
    rw [upd_ne (fun z => by rw [z, e1] at e; cases e; exact hu _ rfl)]; exact e
  refine ⟨M.ap, same_in M1.same M.ap.nmv, kp _ _ M1.run (fun _ z => by cases z), by rw [upd_ne M.ap.l3]; exact M1.hp, by rw [upd_ne M.ap.l5]; exact M1.fr, by rw [upd_ne M.ap.l6]; exact M1.rt, kp _ _ M1.tr (fun _ z => by cases z),
    ⟨ts ++ [t], ?_, ?_⟩, kp _ _ M1.pl (fun _ z => by cases z), M.plk, M1.en.upd (fun z => by obtain ⟨_, e⟩ := M1.en.mem _ z; rw [e1] at e; cases e), M.big, ?_⟩
  · rw [upd_same, List.map_append]
    rfl
  · exact MvAt.upd (fun x e => by rw [e1] at e; cases e) ((m2.same s1).snoc upd_same)
  · have := M.le
    exact ⟨this.1, by show (S.mv ++ [m]).length ≤ c; rw [List.length_append]; exact hl, this.2.2⟩
theorem MIn.setd (M : MIn CM CT H0 H A S c) {d : Addr} {r : List Addr} {n n' : Nm} {g : List Nm} (hd : A.ds = d :: r) (hf : S.fr = n :: g) (hb : ∀ p ∈ n', Bg p.2) (hl : n'.length ≤ c + 1000) : MIn CM CT H0 (upd H d (.dK (envD n'))) A { S with fr := n' :: g } c := by
  obtain ⟨ts, m1, m2⟩ := M.mv
  have E := M.en
  have nd := M.ap.ndd
  rw [hd] at nd
  rw [hd, hf] at E
  have dm : d ∈ A.ds := by rw [hd]; exact List.mem_cons_self
  have kp : ∀ b u, H b = some u → (∀ kvs, u ≠ .dK kvs) → upd H d (.dK (envD n')) b = some u := fun b u e hu => by
    rw [upd_ne (fun z => by rw [z, E.1.1] at e; cases e; exact hu _ rfl)]; exact e
  refine ⟨M.ap, same_in M.same (M.ap.nds d dm), kp _ _ M.run (fun _ z => by cases z), kp _ _ M.hp (fun _ z => by cases z), kp _ _ M.fr (fun _ z => by cases z), kp _ _ M.rt (fun _ z => by cases z), kp _ _ M.tr (fun _ z => by cases z),
    ⟨ts, kp _ _ m1 (fun _ z => by cases z), m2.upd (fun m e => by rw [E.1.1] at e; cases e)⟩, by rw [upd_ne (fun z => M.ap.pd (by rw [z]; exact dm))]; exact M.pl, M.plk, ?_, M.big, M.le⟩
  rw [hd]
  exact ⟨⟨upd_same, hb, hl, E.1.2.2.2⟩, E.2.upd (List.nodup_cons.mp nd).1⟩
theorem MIn.setr (M : MIn CM CT H0 H A S c) (r : List Int) (hl : r.length ≤ c) : MIn CM CT H0 (upd H A.rt (.lst (r.reverse.map V.int))) A { S with rt := r } c := by
  obtain ⟨ts, m1, m2⟩ := M.mv
  have kp : ∀ b u, H b = some u → (∀ xs, u ≠ .lst xs) → upd H A.rt (.lst (r.reverse.map V.int)) b = some u := fun b u e hu => by
    rw [upd_ne (fun z => by rw [z, M.rt] at e; cases e; exact hu _ rfl)]; exact e
  exact ⟨M.ap, same_in M.same M.ap.nrt, kp _ _ M.run (fun _ z => by cases z), by rw [upd_ne M.ap.l2]; exact M.hp, by rw [upd_ne M.ap.l4]; exact M.fr, upd_same, kp _ _ M.tr (fun _ z => by cases z),
    ⟨ts, by rw [upd_ne (Ne.symm M.ap.l6)]; exact m1, m2.upd (fun m e => by rw [M.rt] at e; cases e)⟩, kp _ _ M.pl (fun _ z => by cases z), M.plk, M.en.upd (fun z => by obtain ⟨_, e⟩ := M.en.mem _ z; rw [M.rt] at e; cases e), M.big, ⟨M.le.1, M.le.2.1, hl, M.le.2.2.2⟩⟩
theorem MIn.setf (M : MIn CM CT H0 H A S c) (ds : List Addr) (fr : List Nm) (en : FrAt H c ds fr) (nds : ∀ a ∈ ds, H0 a = none) (ndd : ds.Nodup) (pd : A.pl ∉ ds) : MIn CM CT H0 (upd H A.fr (.lst (ds.reverse.map V.ref))) { A with ds := ds } { S with fr := fr } c := by
  obtain ⟨ts, m1, m2⟩ := M.mv
  have kp : ∀ b u, H b = some u → (∀ xs, u ≠ .lst xs) → upd H A.fr (.lst (ds.reverse.map V.ref)) b = some u := fun b u e hu => by
    rw [upd_ne (fun z => by rw [z, M.fr] at e; cases e; exact hu _ rfl)]; exact e
  have a := M.ap
  exact ⟨⟨a.np, a.nhp, a.nfr, a.nrt, a.nt, a.nmv, a.npl, nds, ndd, pd, a.pt, a.l1, a.l2, a.l3, a.l4, a.l5, a.l6⟩, same_in M.same M.ap.nfr, kp _ _ M.run (fun _ z => by cases z), by rw [upd_ne M.ap.l1]; exact M.hp, upd_same, by rw [upd_ne (Ne.symm M.ap.l4)]; exact M.rt, kp _ _ M.tr (fun _ z => by cases z),
    ⟨ts, by rw [upd_ne (Ne.symm M.ap.l5)]; exact m1, m2.upd (fun m e => by rw [M.fr] at e; cases e)⟩, kp _ _ M.pl (fun _ z => by cases z), M.plk, en.upd (fun z => by obtain ⟨_, e⟩ := en.mem _ z; rw [M.fr] at e; cases e), M.big, M.le⟩
theorem MIn.pushf (M : MIn CM CT H0 H A S c) {d : Addr} {n : Nm} (hd : H d = none) (hb : ∀ p ∈ n, Bg p.2) (hl : n.length ≤ c + 1000) (hf : S.fr.length ≤ c) : MIn CM CT H0 (upd (upd H d (.dK (envD n))) A.fr (.lst (A.ds.reverse.map V.ref ++ [.ref d]))) { A with ds := d :: A.ds } { S with fr := n :: S.fr } c := by
  have s1 := same_upd hd (.dK (envD n))
  have o := M.out hd
  have := (M.same' s1).setf (d :: A.ds) (n :: S.fr) ⟨⟨upd_same, hb, hl, hf⟩, M.en.same s1⟩ (fun a ha => by
    rcases List.mem_cons.mp ha with rfl | ha
    · exact M.same.free hd
    · exact M.ap.nds a ha) (List.nodup_cons.mpr ⟨o.2.2.2.2.2.2.2, M.ap.ndd⟩) (fun z => by
    rcases List.mem_cons.mp z with z | z
    · exact o.2.2.2.2.2.2.1 z.symm
    · exact M.ap.pd z)
  rw [List.reverse_cons, List.map_append] at this
  exact this
theorem MIn.popf (M : MIn CM CT H0 H A S c) {d : Addr} {ds : List Addr} {n : Nm} {g : List Nm} (hd : A.ds = d :: ds) (hf : S.fr = n :: g) : MIn CM CT H0 (upd H A.fr (.lst (ds.reverse.map V.ref))) { A with ds := ds } { S with fr := g } c := by
  have E := M.en
  have nd := M.ap.ndd
  rw [hd] at nd
  rw [hd, hf] at E
  exact M.setf ds g E.2 (fun a ha => M.ap.nds a (by rw [hd]; exact List.mem_cons_of_mem _ ha)) (List.nodup_cons.mp nd).2 (fun z => M.ap.pd (by rw [hd]; exact List.mem_cons_of_mem _ z))
end
/-! ### rows -/
inductive Rw where
  | push (n : Int)
  | load (x : Str)
  | store (x : Str)
  | join (s : Str)
  | comp (s : Str)
  | count
  | deeper
  | hold
  | move (m a : Str) (b : Bool)
  | stop
  | jump (k : Int)
  | unless (k : Int)
  | call (k : Int) (xs : List Str)
  | back
noncomputable def Rw.dat : Rw → PyData
  | .push n => .tuple [.str "push", .int n]
  | .load x => .tuple [.str "load", .str x]
  | .store x => .tuple [.str "store", .str x]
  | .join s => .tuple [.str s]
  | .comp s => .tuple [.str s]
  | .count => .tuple [.str "count"]
  | .deeper => .tuple [.str "deeper"]
  | .hold => .tuple [.str "hold"]
  | .move m a b => .tuple [.str "move", .str m, .str a, .bool b]
  | .stop => .tuple [.str "stop"]
  | .jump k => .tuple [.str "jump", .int k]
  | .unless k => .tuple [.str "unless", .int k]
  | .call k xs => .tuple [.str "call", .int k, .list (xs.map .str)]
  | .back => .tuple [.str "back"]
inductive ResM where
  | ok (S : MS) | stop (m : List (List V)) (d : PyData) | bad
noncomputable def sgn (s : Str) : Str := if s = "add" then "+" else if s = "sub" then "-" else "*"
noncomputable def cmpI (s : Str) (a b : Int) : Int := if s = "less" then (if a < b then 1 else 0) else (if a = b then 1 else 0)
noncomputable def putN : Nm → List (Str × Int) → Nm
  | n, [] => n
  | n, p :: r => putN (put n p.1 p.2) r
theorem putN_env : ∀ (xs : List Str) (is : List Int) (n : Nm), putAllK (envD n) ((xs.map (Sum.inr : Str → Key)).zip (is.map V.int)) = envD (putN n (xs.zip is))
  | [], is, n => by simp [putAllK, putN]
  | x :: xs, [], n => by simp [putAllK, putN]
  | x :: xs, i :: is, n => by
    show putAllK (putK (envD n) (Sum.inr x) (V.int i)) _ = _
    rw [putK_env]
    exact putN_env xs is (put n x i)
theorem putN_len : ∀ (ps : List (Str × Int)) (n : Nm), (putN n ps).length ≤ n.length + ps.length
  | [], n => Nat.le_refl _
  | p :: r, n => by
    have h1 := putN_len r (put n p.1 p.2)
    have h2 := len_put n p.1 p.2
    rw [putN, List.length_cons]
    omega
noncomputable def opM (S : MS) : Rw → ResM
  | .push n => .ok { S with hp := n :: S.hp }
  | .load x => match S.fr with
    | [] => .bad
    | f :: _ => match look f x with
      | some i => .ok { S with hp := i :: S.hp }
      | none => .stop S.mv (dUnknown x)
  | .store x => match S.hp, S.fr with
    | i :: h, f :: g => .ok { S with hp := h, fr := put f x i :: g }
    | _, _ => .bad
  | .join s => match S.hp with
    | b :: a :: h => match bnd (jn (sgn s) a b) with
      | .ok i => .ok { S with hp := i :: h }
      | .error d => .stop S.mv d
    | _ => .bad
  | .comp s => match S.hp with
    | b :: a :: h => .ok { S with hp := cmpI s a b :: h }
    | _ => .bad
  | .count => if S.cnt = 2000 then .stop S.mv dLong else .ok { S with cnt := S.cnt + 1 }
  | .deeper => if 10 ≤ S.rt.length then .stop S.mv dDeep else .ok S
  | .hold => match S.hp with
    | i :: h => .ok { S with hp := h, mv := S.mv ++ [[.str "hold", .int i]] }
    | _ => .bad
  | .move m a b => match S.hp with
    | i :: h => match bnd (if b = true then (look S.st a).getD 0 + i else i) with
      | .ok j => .ok { S with hp := h, st := put S.st a j, mv := S.mv ++ [[.str m, .str a, .int j]] }
      | .error d => .stop S.mv d
    | _ => .bad
  | .stop => .stop S.mv dDone
  | .jump k => .ok { S with pl := k }
  | .unless k => match S.hp with
    | i :: h => if i = 0 then .ok { S with hp := h, pl := k } else .ok { S with hp := h }
    | _ => .bad
  | .call k xs => if xs.length ≤ S.hp.length then .ok { S with pl := k, hp := S.hp.drop xs.length, fr := putN [] (xs.zip (S.hp.take xs.length).reverse) :: S.fr, rt := S.pl :: S.rt } else .bad
  | .back => match S.fr, S.rt with
    | _ :: g, p :: r => .ok { S with pl := p, fr := g, rt := r }
    | _, _ => .bad
noncomputable def Rw.ok : Rw → Prop
  | .push n => Bg n
  | .join s => s = "add" ∨ s = "sub" ∨ s = "mul"
  | .comp s => s = "less" ∨ s = "same"
  | .move _ a _ => a = "x" ∨ a = "y" ∨ a = "z"
  | .call _ xs => xs.length ≤ 1000
  | _ => True
noncomputable def FinM (K : PySem.W.Frag) (C CM CT : Addr) (H0 : Hp) (p : Addr) (c : Nat) (Q : VK) (E : XK) : ResM → Prop
  | .ok S' => ∀ H' A', MIn CM CT H0 H' A' S' c → A'.p = p → Q .non H'
  | .stop ms d => ∀ dx v H' A' S' c', MIn CM CT H0 H' A' S' c' → A'.p = p → S'.mv = ms → H' dx = some (.xd [("end", v)]) → Rp K H' v d → E (.ref C) (some dx) H'
  | .bad => False
theorem FinM.xe {K : PySem.W.Frag} {C CM CT : Addr} {H0 H : Hp} {A : MA} {S : MS} {c c' : Nat} {Q : VK} {E : XK} {ms : List (List V)} {d : PyData} (M : MIn CM CT H0 H A S c') (e : S.mv = ms) (h : FinM K C CM CT H0 A.p c Q E (.stop ms d)) : XE K C H E d := fun dx v H' s h1 h2 => h dx v H' A S c' (M.same' s) rfl e h1 h2
structure MT (K : PySem.W.Frag) (mg : Str → Option Value) (CM CT : Addr) : Prop where
  clM : Cls K CM
  clT : Cls K CT
  nPlace : NoAttr K CM "place"
  nHeap : NoAttr K CM "heap"
  nFrames : NoAttr K CM "frames"
  nReturns : NoAttr K CM "returns"
  nTrack : NoAttr K CM "track"
  nMoves : NoAttr K CT "moves"
  nPlaces : NoAttr K CT "places"
  nCounted : NoAttr K CT "counted"
  len : mg "len" = none
  dict : mg "dict" = none
  range : mg "range" = none
  cnt : ∃ t, mg "MOST_COUNTED" = some (.int 2000 t)
end Car

set_option maxHeartbeats 1000000
namespace Car
open PySem L2
theorem pick_rev (xs : List V) : pickV xs none none (some (-1)) = xs.reverse := by
  unfold pickV
  rw [PySem.W.krv_bounds]
  show (sliceRange ((xs.length : Int) - 1) (-1) (-1)).filterMap (xs[·]?) = _
  rw [PySem.W.krv_sliceRange, PySem.W.krv_range, List.filterMap_reverse]
  have h := PySem.W.krv_all xs.toArray
  simp only [List.size_toArray, List.getElem?_toArray] at h
  rw [h]
end Car
seal L2.PE L2.PT L2.PA L2.PS L2.PSs L2.PG L2.PGs L2.PI L2.PSet L2.PC L2.OpR L2.UnR L2.CallR L2.TruR L2.IxR L2.SlR L2.PO L2.InOp L2.PX L2.PIfs
namespace Car
open PySem L2
noncomputable abbrev sMachI : Stmt := inClass (top 12) 0
noncomputable abbrev sStep : Stmt := inClass (top 12) 1
noncomputable abbrev sTake : Stmt := inClass (top 12) 2
noncomputable abbrev sMany : Stmt := inClass (top 12) 3
section
variable {P : Program} {w : World} {K : PySem.W.Frag} {mg : Str → Option Value} {base : Heap} {C CM CT fI f : Addr} {fd fd' : FuncData}
/-! ### the track -/
noncomputable def spOne (K : PySem.W.Frag) (C CM CT : Addr) : Sp := fun vs H Q E => ∃ H0 A S c, vs = [.ref A.t] ∧ MIn CM CT H0 H A S c ∧ if S.cnt = 2000 then XE K C H E dLong else Q .non (upd H A.t (.ins CT A.tdx (fT A.mv A.pl ((S.cnt + 1 : Nat) : Int))))
theorem scOne : FnScope ["self"] ["self"] (defScope sOne) := ⟨rfl, rfl, rfl, by decide +kernel, rfl, by decide +kernel, by decide +kernel⟩
theorem ok_one (T : MT K mg CM CT) (S : StopT P w K mg base C fI fd) (F : Fun K "count_one" "Track.count_one" sOne f fd') : FnOk P w K mg base (CX1 P w) 3 f fd' ["self"] (spOne K C CM CT) := by
  refine F.ok1 scOne (fun vs H Q E h => ?_) (fun cdv A outer s H vs Q E hr h => ?_)
  · obtain ⟨H0, A, S, c, rfl, _⟩ := h
    rfl
  obtain ⟨H0, A, S', c, rfl, R, q⟩ := h
  obtain ⟨tk, hnum⟩ := T.cnt
  refine ⟨_, (pss_cons (ps_if (pt_cmpR op_eq (pe_fld (pv 0) rfl) (pe_glob (v := .int 2000) rfl hnum ⟨_, rfl⟩) (nomark _)) (pss_one (ps_raiseI S.S rfl rfl rfl flies1 S.ok hr S.bi (pa_cons (pe_tup (pa_cons pe_str pa_nil)) pa_nil))) pss_nil)
    (pss_one (ps_fldaug (pv 0) pe_int in_add))), ?_⟩
  refine ⟨_, rfl, _, _, _, _, _, rfl, R.tr, T.clT, T.nCounted, rfl, rfl, _, rfl, ?_⟩
  refine ite2 (fun e => ?_) (fun e => ?_)
  · have e' : V.int (S'.cnt : Int) = V.int 2000 := of_decide_eq_true e
    have e2 : S'.cnt = 2000 := by injection e' with z; omega
    rw [if_pos e2] at q
    refine ⟨by show 1 ≤ sizeLine; decide, fun p hp => ⟨by show 1 ≤ sizeLine; decide, ?_⟩⟩
    exact stop_ok hp (.tup (SqT.of upd_same) (.cons (.str _) .nil)) q
  · have e' : ¬ V.int (S'.cnt : Int) = V.int 2000 := of_decide_eq_false (Bool.eq_false_iff.mpr e)
    have e2 : ¬ S'.cnt = 2000 := fun z => e' (by rw [z]; rfl)
    rw [if_neg e2] at q
    exact ⟨_, rfl, _, _, _, _, _, rfl, R.tr, T.clT, T.nCounted, rfl, _, _, rfl, rfl, _, _, R.tr, (by show 3 < 1000; decide), q⟩
noncomputable def spHold (CM CT : Addr) : Sp := fun vs H Q _ => ∃ H0 A S c i, vs = [.ref A.t, .int i] ∧ MIn CM CT H0 H A S c ∧ S.mv.length < c ∧ ∀ H', MIn CM CT H0 H' A { S with mv := S.mv ++ [[.str "hold", .int i]] } c → Q .non H'
theorem scMHold : FnScope ["self", "number"] ["self", "number"] (defScope sMHold) := ⟨rfl, rfl, rfl, by decide +kernel, rfl, by decide +kernel, by decide +kernel⟩
theorem line6 {n c : Nat} (h : n ≤ c) (h2 : c ≤ 1000000) : n < sizeLine := Nat.lt_of_le_of_lt (Nat.le_trans h h2) (by decide)
theorem ok_mhold (T : MT K mg CM CT) (F : Fun K "make_hold" "Track.make_hold" sMHold f fd') : FnOk P w K mg base (CX1 P w) 1 f fd' ["self", "number"] (spHold CM CT) := by
  refine F.ok1 scMHold (fun vs H Q E h => ?_) (fun cdv A outer s H vs Q E hr h => ?_)
  · obtain ⟨H0, A, S, c, i, rfl, _⟩ := h
    rfl
  obtain ⟨H0, A, S, c, i, rfl, M, hl, q⟩ := h
  refine ⟨_, (pss_one (ps_expr (pe_bm PySem.F.plainAttrs_list PySem.F.slot_list_append PySem.F.type_list_append mt_append (pe_fld (pv 0) rfl) (pa_cons (pe_tup (pa_cons pe_str (pa_cons (pv 1) pa_nil))) pa_nil)))), ?_⟩
  obtain ⟨ts, m1, m2⟩ := M.mv
  refine ⟨_, rfl, _, _, _, _, _, rfl, M.tr, T.clT, T.nMoves, rfl, .inl ⟨rfl, _, SqL.of m1⟩, _, rfl, le2, fun t ht => ?_⟩
  have s1 := same_upd ht (.tup [V.str "hold", .int i])
  refine ⟨A.mv, _, .ref t, rfl, rfl, s1 _ _ m1, ?_, q _ (M.say m1 m2 ht hl)⟩
  rw [List.length_map, m2.len]
  exact line6 (Nat.le_of_lt hl) M.le.2.2.2.1
noncomputable def spMove (K : PySem.W.Frag) (C CM CT : Addr) : Sp := fun vs H Q E => ∃ H0 A S c m a i b, vs = [.ref A.t, .str m, .str a, .int i, .bl b] ∧ MIn CM CT H0 H A S c ∧ (a = "x" ∨ a = "y" ∨ a = "z") ∧ S.mv.length < c ∧
  match bnd (if b = true then (look S.st a).getD 0 + i else i) with
  | .ok j => ∀ H', MIn CM CT H0 H' A { S with st := put S.st a j, mv := S.mv ++ [[.str m, .str a, .int j]] } c → Q .non H'
  | .error d => XE K C H E d
theorem scMMove : FnScope ["self", "kind", "axis", "number", "by", "to"] ["self", "kind", "axis", "number", "by"] (defScope sMMove) := ⟨rfl, rfl, rfl, by decide +kernel, rfl, by decide +kernel, by decide +kernel⟩
theorem ok_mmove (T : MT K mg CM CT) (FB : Fn P w K mg base "bounded" 3 ["number"] (spBounded K C)) (F : Fun K "make_move" "Track.make_move" sMMove f fd') : FnOk P w K mg base (CX1 P w) 4 f fd' ["self", "kind", "axis", "number", "by"] (spMove K C CM CT) := by
  have nd := scMMove.nd
  refine F.ok1 scMMove (fun vs H Q E h => ?_) (fun cdv A outer s H vs Q E hr h => ?_)
  · obtain ⟨H0, A, S, c, m, a, i, b, rfl, _⟩ := h
    rfl
  obtain ⟨H0, A, S, c, m, a, i, b, rfl, M, ha, hl, q⟩ := h
  have hu := hu_of hr
  refine ⟨_, (pss_cons (ps_set (i := 5) nd rfl (Or.inl rfl) (pf_call FB hr rfl (pass1 (E := E)) (pa_cons (pe_ifExp (pt_truth (pv 4) (fun _ => rfl)) (pe_op op_add (pe_dget hu (pe_fld (pv 0) rfl) (pv 2) (fun _ _ => rfl)) (pv 3)) (pv 3)) pa_nil)))
    (pss_cons (ps_dput hu (pe_fld (pv 0) rfl) (pv 2) (pv 5) rfl)
    (pss_one (ps_expr (pe_bm PySem.F.plainAttrs_list PySem.F.slot_list_append PySem.F.type_list_append mt_append (pe_fld (pv 0) rfl) (pa_cons (pe_tup (pa_cons (pv 1) (pa_cons (pv 2) (pa_cons (pv 5) pa_nil)))) pa_nil)))))), ?_⟩
  have done : ∀ j, (∀ H', MIn CM CT H0 H' A { S with st := put S.st a j, mv := S.mv ++ [[.str m, .str a, .int j]] } c → Q .non H') → tSeq (sDPut (tFld K (tVar 0) "places") (tVar 2) (tVar 5)) (tDrop (tBM K "list" rAppend (tFld K (tVar 0) "moves") (tCons (tTup (tCons (tVar 1) (tCons (tVar 2) (tCons (tVar 5) tNil)))) tNil)))
      { nx := fun _ H' => Q .non H', rt := Q } [some (.ref A.t), some (.str m), some (.str a), some (.int i), some (.bl b), some (.int j)] H := fun j q => by
    have plen := M.plk.len
    refine ⟨_, rfl, _, rfl, _, _, _, _, _, rfl, M.tr, T.clT, T.nPlaces, rfl, _, rfl, A.pl, _, rfl, DPut.k (k := Sum.inr a) M.pl (by unfold envD; rw [List.length_map, plen]; decide), ?_⟩
    rw [putK_env]
    have M1 := M.putp (i := j) ha
    obtain ⟨ts, m1, m2⟩ := M1.mv
    refine ⟨_, rfl, _, _, _, _, _, rfl, M1.tr, T.clT, T.nMoves, rfl, .inl ⟨rfl, _, SqL.of m1⟩, _, rfl, _, rfl, _, rfl, le3, fun t ht => ?_⟩
    have s1 := same_upd ht (.tup [V.str m, .str a, .int j])
    refine ⟨A.mv, _, .ref t, rfl, rfl, s1 _ _ m1, ?_, q _ (M1.say m1 m2 ht hl)⟩
    rw [List.length_map, m2.len]
    exact line6 (Nat.le_of_lt hl) M.le.2.2.2.1
  refine ⟨_, rfl, b, rfl, ?_⟩
  cases b with
  | true =>
    refine iteT ?_
    obtain ⟨z, hz⟩ := M.plk.look ha
    rw [hz, if_pos rfl, Option.getD_some] at q
    refine ⟨_, rfl, _, _, _, _, _, rfl, M.tr, T.clT, T.nPlaces, rfl, _, rfl, A.pl, .int z, rfl, ?_, _, rfl, z, i, rfl, rfl, z + i, rfl, ?_⟩
    · have g := DGet.k (k := Sum.inr a) M.pl
      rw [valV_env, hz] at g
      exact g
    · cases e : bnd (z + i) with
      | ok j => rw [e] at q; exact done j q
      | error d => rw [e] at q; exact q
  | false =>
    refine iteF ?_
    rw [if_neg Bool.false_ne_true] at q
    refine ⟨_, rfl, i, rfl, ?_⟩
    cases e : bnd i with
    | ok j => rw [e] at q; exact done j q
    | error d => rw [e] at q; exact q
/-! ### take, take_many -/
noncomputable def spTake (CM CT : Addr) : Sp := fun vs H Q _ => ∃ H0 A S c i h, vs = [.ref A.p] ∧ MIn CM CT H0 H A S c ∧ S.hp = i :: h ∧ Q (.int i) (upd H A.hp (.lst (h.reverse.map V.int)))
theorem scTake : FnScope ["self"] ["self"] (defScope sTake) := ⟨rfl, rfl, rfl, by decide +kernel, rfl, by decide +kernel, by decide +kernel⟩
theorem ok_take (T : MT K mg CM CT) (F : Fun K "take" "Machine.take" sTake f fd') : FnOk P w K mg base (CX1 P w) 1 f fd' ["self"] (spTake CM CT) := by
  refine F.ok1 scTake (fun vs H Q E h => ?_) (fun cdv A outer s H vs Q E hr h => ?_)
  · obtain ⟨H0, A, S, c, i, h, rfl, _⟩ := h
    rfl
  obtain ⟨H0, A, S, c, i, h, rfl, M, eh, q⟩ := h
  refine ⟨_, (pss_one (ps_ret (pe_bm0 PySem.F.plainAttrs_list PySem.F.slot_list_pop PySem.F.type_list_pop mt_pop (pe_fld (pv 0) rfl)))), ?_⟩
  have hp := M.hp
  rw [eh, List.reverse_cons, List.map_append] at hp
  refine ⟨_, rfl, _, _, _, _, _, rfl, M.run, T.clM, T.nHeap, rfl, .inl ⟨rfl, _, SqL.of hp⟩, A.hp, _, .int i, rfl, rfl, hp, ?_, ?_⟩
  · rw [List.length_append, List.length_map]
    show (List.map V.int h.reverse ++ [V.int i])[h.reverse.length + 1 - 1]? = some (V.int i)
    rw [Nat.add_sub_cancel, List.getElem?_append_right (by rw [List.length_map]; exact Nat.le_refl _), List.length_map, Nat.sub_self]
    rfl
  · rw [show (List.map V.int h.reverse ++ List.map V.int [i]).dropLast = List.map V.int h.reverse from List.dropLast_concat]
    exact q
noncomputable def spMany (CM CT : Addr) : Sp := fun vs H Q _ => ∃ H0 A S c ys h, vs = [.ref A.p, .int (ys.length : Int)] ∧ MIn CM CT H0 H A S c ∧ S.hp = ys ++ h ∧ ys.length ≤ 1000 ∧ ∀ l H', MIn CM CT H0 H' A { S with hp := h } c → H' l = some (.lst (ys.reverse.map V.int)) → A.out l → Q (.ref l) H'
theorem scMany : FnScope ["self", "many", "taken"] ["self", "many"] (defScope sMany) := ⟨rfl, rfl, rfl, by decide +kernel, rfl, by decide +kernel, by decide +kernel⟩
theorem nd2t : (["turn", "self"] : List Str).Nodup := by decide +kernel
theorem ok_many (T : MT K mg CM CT) (MTk : Mt P w K mg base CM "take" 1 ["self"] (spTake CM CT)) (F : Fun K "take_many" "Machine.take_many" sMany f fd') : FnOk P w K mg base (CX1 P w) 2 f fd' ["self", "many"] (spMany CM CT) := by
  have nd := scMany.nd
  refine F.ok1 scMany (fun vs H Q E h => ?_) (fun cdv A outer s H vs Q E hr h => ?_)
  · obtain ⟨H0, A, S, c, ys, h, rfl, _⟩ := h
    rfl
  obtain ⟨H0, A, S, c, ys, h, rfl, M, eh, yl, q⟩ := h
  have hr1 : Room 1 _ := hr.mono (by decide)
  refine ⟨_, (pss_cons (ps_setC (i := 2) (own := ["turn"]) (capn := ["self"]) (capI := [0]) nd rfl (Or.inl rfl) rfl rfl (blkC (defScope sMany) rfl rfl (by decide +kernel) rfl (fun y hy => by rcases List.mem_cons.mp hy with rfl | hy; exact ⟨rfl, rfl⟩; cases hy)) (pi_range1 rfl T.range (pa_cons (pv 1) pa_nil)) (fun _ _ _ _ _ _ => pg_name (i := 0) nd2t rfl (Or.inl rfl)) (fun _ _ _ _ _ _ => pifs_nil) (fun _ _ _ _ _ _ => (pf_meth0 MTk (pv 1) hr1 passN)))
    (pss_one (ps_ret (pe_slice3 (pv 2) po_none po_none (po_some (pe_un un_neg pe_int)))))), ?_⟩
  refine ⟨_, rfl, (ys.length : Int), rfl, (by omega), (by omega), fun D hD => ?_⟩
  have oD := M.out hD
  have hD0 := M.same.free hD
  have M0 := (M.same' (same_upd hD (.lst [])))
  refine ⟨Wd ys.length (fun i σ acc H2 => ∃ z : Option V, σ = [z, some (.ref A.p)] ∧ acc = (ys.take i).map V.int ∧ acc.length = i ∧ MIn CM CT H0 H2 A { S with hp := ys.drop i ++ h } c ∧ H2 D = some (.lst acc)), wd_0 ⟨none, rfl, rfl, rfl, ?_, upd_same⟩, ?_⟩
  · rw [List.drop_zero, ← eh]
    exact M0
  rintro i m σ acc H2 ⟨rfl, hi0, z, rfl, ea, al, M2, hD2⟩
  refine rg_ask (by rw [Int.toNat_natCast]; exact hi0) (fun hi => ?_) (fun hend => ?_)
  · rw [Int.toNat_natCast] at hi
    refine ⟨_, rfl, _, _, _, rfl, M2.run, rfl, H0, A, _, c, ys[i], ys.drop (i + 1) ++ h, rfl, M2, ?_, ?_⟩
    · show ys.drop i ++ h = _
      rw [List.drop_eq_getElem_cons hi]
      rfl
    have M3 := M2.seth (ys.drop (i + 1) ++ h) (fun k hk => M.big k (by
      rw [eh]
      rcases List.mem_append.mp hk with z | z
      · exact List.mem_append_left _ (List.mem_of_mem_drop z)
      · exact List.mem_append_right _ z)) (by
      have := M.le.1
      rw [eh, List.length_append] at this
      rw [List.length_append, List.length_drop]
      omega)
    have hD3 : upd H2 A.hp (.lst ((ys.drop (i + 1) ++ h).reverse.map V.int)) D = some (.lst acc) := by rw [upd_ne oD.2.1]; exact hD2
    refine ⟨hD3, ?_, wd_next hi ⟨_, rfl, ?_, by rw [List.length_append, al]; rfl, M3.updq oD hD0 (fun m e => by rw [hD3] at e; cases e), upd_same⟩⟩
    · rw [al]
      exact line6 (show i ≤ 1000 by omega) (by decide)
    · rw [List.take_succ_eq_append_getElem hi, List.map_append, ← ea]
      rfl
  · rw [Int.toNat_natCast] at hend
    subst hend
    rw [List.take_length] at ea
    subst ea
    rw [List.drop_length, List.nil_append] at M2
    refine ⟨_, rfl, _, rfl, _, rfl, D, _, rfl, SqL.of hD2, (by decide), fun _ l hl => ?_⟩
    rw [pick_rev]
    have s3 := same_upd hl (.lst (ys.map V.int).reverse)
    exact q l _ (M2.same' s3) (by rw [upd_same, List.map_reverse]) (M2.out hl)
end
end Car

set_option maxHeartbeats 1000000
namespace Car
open PySem L2
noncomputable abbrev sDPush : Stmt := top 13
noncomputable abbrev sDLoad : Stmt := top 14
noncomputable abbrev sDStore : Stmt := top 15
noncomputable abbrev sLay : Stmt := top 16
noncomputable abbrev sDAdd : Stmt := top 17
noncomputable abbrev sDSub : Stmt := top 18
noncomputable abbrev sDMul : Stmt := top 19
noncomputable abbrev sDLess : Stmt := top 20
noncomputable abbrev sDSame : Stmt := top 21
noncomputable abbrev sDJump : Stmt := top 22
noncomputable abbrev sDUnless : Stmt := top 23
noncomputable abbrev sDCall : Stmt := top 24
noncomputable abbrev sDBack : Stmt := top 25
noncomputable abbrev sDCount : Stmt := top 26
noncomputable abbrev sDDeeper : Stmt := top 27
noncomputable abbrev sDHold : Stmt := top 28
noncomputable abbrev sDMove : Stmt := top 29
noncomputable abbrev sDStop : Stmt := top 30
noncomputable abbrev sDoCode : Stmt := top 32
noncomputable def sD : V → PyData
  | .int i => .int i
  | .str x => .str x
  | .bl b => .bool b
  | _ => .none
noncomputable def isS : V → Prop
  | .int _ => True
  | .str _ => True
  | .bl _ => True
  | _ => False
section
variable {K : PySem.W.Frag} {H : Hp}
theorem rps_flat : ∀ {m xs : List V}, (∀ v ∈ m, isS v) → Rps K H xs (m.map sD) → xs = m
  | [], xs, _, r => r.nilO
  | v :: m, xs, h, r => by
    obtain ⟨x, ys, rfl, r1, r2⟩ := r.consO
    rw [rps_flat (fun y hy => h y (List.mem_cons_of_mem _ hy)) r2]
    have hv := h v List.mem_cons_self
    cases v with
    | int i => rw [Rp.intO r1]
    | str s => rw [Rp.strO r1]
    | bl b => rw [Rp.blO r1]
    | _ => exact hv.elim
theorem tup_flat {m : List V} {v : V} (h : ∀ v ∈ m, isS v) (r : Rp K H v (.tuple (m.map sD))) : ∃ t, v = .ref t ∧ SqT K H t m := by
  obtain ⟨t, xs, rfl, q, rs⟩ := r.tupO
  rw [rps_flat h rs] at q
  exact ⟨t, rfl, q⟩
end
theorem opM_load {S : MS} {n : Nm} {g : List Nm} {x : Str} (h : S.fr = n :: g) : opM S (.load x) = match look n x with | some i => .ok { S with hp := i :: S.hp } | none => .stop S.mv (dUnknown x) := by
  cases S
  cases h
  rfl
theorem opM_store {S : MS} {n : Nm} {g : List Nm} {x : Str} {i : Int} {t : List Int} (h1 : S.hp = i :: t) (h : S.fr = n :: g) : opM S (.store x) = .ok { S with hp := t, fr := put n x i :: g } := by
  cases S
  cases h
  cases h1
  rfl
theorem opM_join {S : MS} {s : Str} {a b : Int} {t : List Int} (h1 : S.hp = b :: a :: t) : opM S (.join s) = match bnd (jn (sgn s) a b) with | .ok i => .ok { S with hp := i :: t } | .error d => .stop S.mv d := by
  cases S
  cases h1
  rfl
theorem opM_comp {S : MS} {s : Str} {a b : Int} {t : List Int} (h1 : S.hp = b :: a :: t) : opM S (.comp s) = .ok { S with hp := cmpI s a b :: t } := by
  cases S
  cases h1
  rfl
theorem opM_hold {S : MS} {i : Int} {t : List Int} (h1 : S.hp = i :: t) : opM S .hold = .ok { S with hp := t, mv := S.mv ++ [[.str "hold", .int i]] } := by
  cases S
  cases h1
  rfl
theorem opM_move {S : MS} {m a : Str} {b : Bool} {i : Int} {t : List Int} (h1 : S.hp = i :: t) : opM S (.move m a b) = match bnd (if b = true then (look S.st a).getD 0 + i else i) with
    | .ok j => .ok { S with hp := t, st := put S.st a j, mv := S.mv ++ [[.str m, .str a, .int j]] } | .error d => .stop S.mv d := by
  cases S
  cases h1
  rfl
section
variable {P : Program} {w : World} {K : PySem.W.Frag} {mg : Str → Option Value} {base : Heap} {C CM CT fI f : Addr} {fd fd' : FuncData}
noncomputable def spOp (K : PySem.W.Frag) (C CM CT : Addr) (kind : Rw → Prop) : Sp := fun vs H Q E => ∃ H0 A S c v r, vs = [.ref A.p, v] ∧ MIn CM CT H0 H A S c ∧ c + 1 ≤ 1000000 ∧ Rp K H0 v r.dat ∧ r.ok ∧ kind r ∧ FinM K C CM CT H0 A.p (c + 1) Q E (opM S r)
theorem MIn.pushh {H0 H : Hp} {A : MA} {S : MS} {c : Nat} (M : MIn CM CT H0 H A S c) {i : Int} (hb : Bg i) (hc : c + 1 ≤ 1000000) : MIn CM CT H0 (upd H A.hp (.lst (S.hp.reverse.map V.int ++ [.int i]))) A { S with hp := i :: S.hp } (c + 1) := by
  have := (M.up (Nat.le_succ c) hc).seth (i :: S.hp) (fun k hk => by
    rcases List.mem_cons.mp hk with rfl | hk
    · exact hb
    · exact M.big k hk) (by rw [List.length_cons]; exact Nat.succ_le_succ M.le.1)
  rw [List.reverse_cons, List.map_append] at this
  exact this
theorem MIn.popd {H0 H : Hp} {A : MA} {S : MS} {c : Nat} (M : MIn CM CT H0 H A S c) {i : Int} {h : List Int} (e : S.hp = i :: h) : MIn CM CT H0 (upd H A.hp (.lst (h.reverse.map V.int))) A { S with hp := h } c :=
  M.seth h (fun k hk => M.big k (by rw [e]; exact List.mem_cons_of_mem _ hk)) (by have := M.le.1; rw [e, List.length_cons] at this; omega)
theorem MIn.lenh {H0 H : Hp} {A : MA} {S : MS} {c : Nat} (M : MIn CM CT H0 H A S c) : (S.hp.reverse.map V.int).length < sizeLine := by
  rw [List.length_map, List.length_reverse]
  exact line6 M.le.1 M.le.2.2.2.1
/-! ### push, load, store -/
theorem scDPush : FnScope ["machine", "row"] ["machine", "row"] (defScope sDPush) := ⟨rfl, rfl, rfl, by decide +kernel, rfl, by decide +kernel, by decide +kernel⟩
theorem ok_dpush (T : MT K mg CM CT) (F : Fun K "do_push" "do_push" sDPush f fd') : FnOk P w K mg base (CX1 P w) 5 f fd' ["machine", "row"] (spOp K C CM CT fun r => ∃ n, r = .push n) := by
  refine F.ok1 scDPush (fun vs H Q E h => ?_) (fun cdv A outer s H vs Q E hr h => ?_)
  · obtain ⟨H0, A, S, c, v, r, rfl, _⟩ := h
    rfl
  obtain ⟨H0, A, S, c, v, _, rfl, M, hc, hv, rk, ⟨n, rfl⟩, q⟩ := h
  obtain ⟨t, rfl, ht⟩ := tup_flat (m := [.str "push", .int n]) (by simp [isS]) hv
  refine ⟨_, (pss_one (ps_expr (pe_bm PySem.F.plainAttrs_list PySem.F.slot_list_append PySem.F.type_list_append mt_append (pe_fld (pv 0) rfl) (pa_cons (pe_ix ix_tup (pv 1) pe_int (fun _ _ => rfl)) pa_nil)))), ?_⟩
  exact ⟨_, rfl, _, _, _, _, _, rfl, M.run, T.clM, T.nHeap, rfl, .inl ⟨rfl, _, SqL.of M.hp⟩, _, rfl, t, _, 1, .int n, rfl, rfl, M.same.sqT ht, rfl, A.hp, _, .int n, rfl, rfl, M.hp, M.lenh, q _ A (M.pushh rk hc) rfl⟩
theorem scDLoad : FnScope ["machine", "row", "names"] ["machine", "row"] (defScope sDLoad) := ⟨rfl, rfl, rfl, by decide +kernel, rfl, by decide +kernel, by decide +kernel⟩
theorem ok_dload (T : MT K mg CM CT) (St : StopT P w K mg base C fI fd) (F : Fun K "do_load" "do_load" sDLoad f fd') : FnOk P w K mg base (CX1 P w) 5 f fd' ["machine", "row"] (spOp K C CM CT fun r => ∃ x, r = .load x) := by
  have nd := scDLoad.nd
  refine F.ok1 scDLoad (fun vs H Q E h => ?_) (fun cdv A outer s H vs Q E hr h => ?_)
  · obtain ⟨H0, A, S, c, v, r, rfl, _⟩ := h
    rfl
  obtain ⟨H0, A, S, c, v, _, rfl, M, hc, hv, rk, ⟨x, rfl⟩, q⟩ := h
  have hu := hu_of hr
  have hr2 : Room 2 _ := hr.mono (by decide)
  obtain ⟨t, rfl, ht⟩ := tup_flat (m := [.str "load", .str x]) (by simp [isS]) hv
  refine ⟨_, (pss_cons (ps_set (i := 2) nd rfl (Or.inl rfl) (pe_ix ix_list (pe_fld (pv 0) rfl) (pe_un un_neg pe_int) (fun _ _ => rfl)))
    (pss_cons (ps_if (pt_cmp (pc_dnotin hu (pe_ix ix_tup (pv 1) pe_int (fun _ _ => rfl)) (pv 2))) (pss_one (ps_raiseI St.S rfl rfl rfl flies1 St.ok hr2 St.bi (pa_cons (pe_tup (pa_cons pe_str (pa_cons (pe_ix ix_tup (pv 1) pe_int (fun _ _ => rfl)) pa_nil))) pa_nil))) pss_nil)
    (pss_one (ps_expr (pe_bm PySem.F.plainAttrs_list PySem.F.slot_list_append PySem.F.type_list_append mt_append (pe_fld (pv 0) rfl) (pa_cons (pe_dget hu (pv 2) (pe_ix ix_tup (pv 1) pe_int (fun _ _ => rfl)) (fun _ _ => rfl)) pa_nil)))))), ?_⟩
  cases ef : S.fr with
  | nil => rw [opM, ef] at q; exact q.elim
  | cons n g =>
    rw [opM_load ef] at q
    have en := M.en
    rw [ef] at en
    cases ed : A.ds with
    | nil => rw [ed] at en; exact en.elim
    | cons d ds =>
      rw [ed] at en
      have hfr := M.fr
      rw [ed, List.reverse_cons, List.map_append] at hfr
      have ht' := M.same.sqT ht
      refine ⟨_, rfl, _, _, _, _, _, rfl, M.run, T.clM, T.nFrames, rfl, _, rfl, A.fr, _, -1, .ref d, rfl, rfl, SqL.of hfr, atI_last _ _, ?_⟩
      refine ⟨_, rfl, t, _, 1, .str x, rfl, rfl, ht', rfl, _, rfl, d, _, rfl, DGet.k (k := Sum.inr x) en.1.1, _, rfl, ?_⟩
      have hv' := valV_env n x
      cases e : look n x with
      | none =>
        rw [e] at hv' q
        rw [hv']
        refine iteT ?_
        refine ⟨_, rfl, t, _, 1, .str x, rfl, rfl, ht', rfl, le2, fun p hp => ⟨le1, ?_⟩⟩
        exact stop_ok hp (.tup (SqT.of upd_same) (.cons (.str _) (.cons (.str _) .nil))) (FinM.xe M rfl q)
      | some i =>
        rw [e] at hv' q
        rw [hv']
        refine iteF ?_
        have hb : Bg i := by
          unfold look at e
          cases e2 : n.find? fun p => decide (p.1 = x) with
          | none => rw [e2] at e; cases e
          | some p =>
            rw [e2] at e
            cases e
            exact en.1.2.1 p (List.mem_of_find?_eq_some e2)
        refine ⟨_, rfl, _, _, _, _, _, rfl, M.run, T.clM, T.nHeap, rfl, .inl ⟨rfl, _, SqL.of M.hp⟩, _, rfl, _, rfl, t, _, 1, .str x, rfl, rfl, ht', rfl, d, .int i, rfl, ?_, A.hp, _, .int i, rfl, rfl, M.hp, M.lenh, q _ A (M.pushh hb hc) rfl⟩
        have z := DGet.k (k := Sum.inr x) en.1.1
        rw [hv'] at z
        exact z
theorem put_big {n : Nm} {x : Str} {i : Int} (h : ∀ p ∈ n, Bg p.2) (hi : Bg i) : ∀ p ∈ put n x i, Bg p.2 := by
  intro p hp
  unfold put at hp
  split at hp
  · obtain ⟨q, hq, rfl⟩ := List.mem_map.mp hp
    split
    · exact hi
    · exact h q hq
  · rcases List.mem_append.mp hp with z | z
    · exact h p z
    · have : p = (x, i) := by simpa using z
      rw [this]
      exact hi
theorem scDStore : FnScope ["machine", "row"] ["machine", "row"] (defScope sDStore) := ⟨rfl, rfl, rfl, by decide +kernel, rfl, by decide +kernel, by decide +kernel⟩
theorem ok_dstore (T : MT K mg CM CT) (MTk : Mt P w K mg base CM "take" 1 ["self"] (spTake CM CT)) (F : Fun K "do_store" "do_store" sDStore f fd') : FnOk P w K mg base (CX1 P w) 5 f fd' ["machine", "row"] (spOp K C CM CT fun r => ∃ x, r = .store x) := by
  refine F.ok1 scDStore (fun vs H Q E h => ?_) (fun cdv A outer s H vs Q E hr h => ?_)
  · obtain ⟨H0, A, S, c, v, r, rfl, _⟩ := h
    rfl
  obtain ⟨H0, A, S, c, v, _, rfl, M, hc, hv, rk, ⟨x, rfl⟩, q⟩ := h
  have hu := hu_of hr
  have hr1 : Room 1 _ := hr.mono (by decide)
  obtain ⟨t, rfl, ht⟩ := tup_flat (m := [.str "store", .str x]) (by simp [isS]) hv
  refine ⟨_, (pss_one (ps_dput hu (pe_ix ix_list (pe_fld (pv 0) rfl) (pe_un un_neg pe_int) (fun _ _ => rfl)) (pe_ix ix_tup (pv 1) pe_int (fun _ _ => rfl)) (pf_meth0 MTk (pv 0) hr1 (pass1 (E := E))) rfl)), ?_⟩
  cases eh : S.hp with
  | nil => rw [opM, eh] at q; exact q.elim
  | cons i h =>
  cases ef : S.fr with
  | nil => rw [opM, eh, ef] at q; exact q.elim
  | cons n g =>
    rw [opM_store eh ef] at q
    have M1 := M.popd eh
    have en := M1.en
    have ef1 : ({ S with hp := h } : MS).fr = n :: g := ef
    rw [ef1] at en
    cases ed : A.ds with
    | nil => rw [ed] at en; exact en.elim
    | cons d ds =>
      rw [ed] at en
      have hfr := M1.fr
      rw [ed, List.reverse_cons, List.map_append] at hfr
      refine ⟨_, rfl, _, _, _, rfl, M.run, rfl, H0, A, S, c, i, h, rfl, M, eh, ?_⟩
      refine ⟨_, rfl, _, _, _, _, _, rfl, M1.run, T.clM, T.nFrames, rfl, _, rfl, A.fr, _, -1, .ref d, rfl, rfl, SqL.of hfr, atI_last _ _, ?_⟩
      refine ⟨_, rfl, t, _, 1, .str x, rfl, rfl, M1.same.sqT ht, rfl, d, _, rfl, DPut.k (k := Sum.inr x) en.1.1 ?_, ?_⟩
      · unfold envD
        rw [List.length_map]
        exact Nat.lt_of_le_of_lt en.1.2.2.1 (Nat.lt_of_le_of_lt (show c + 1000 ≤ 1001000 by omega) (by decide))
      · rw [putK_env]
        refine q _ A ?_ rfl
        refine (M1.up (Nat.le_succ c) hc).setd ed ef1 (put_big en.1.2.1 (M.big i (by rw [eh]; exact List.mem_cons_self))) ?_
        have := len_put n x i
        have := en.1.2.2
        omega
end
end Car

set_option maxHeartbeats 1000000
namespace Car
open PySem L2
theorem bg_small {i : Int} (h : -1000000 ≤ i ∧ i ≤ 1000000) : Bg i := by
  have h1 : i.natAbs ≤ 1000000 := by omega
  exact Nat.lt_of_le_of_lt h1 (by decide)
section
variable {P : Program} {w : World} {K : PySem.W.Frag} {mg : Str → Option Value} {base : Heap} {C CM CT fI f : Addr} {fd fd' : FuncData}
/-! ### add, sub, mul -/
noncomputable def spLay (K : PySem.W.Frag) (C CM CT : Addr) : Sp := fun vs H Q E => ∃ H0 A S c sg a b h, vs = [.ref A.p, .str sg] ∧ MIn CM CT H0 H A S c ∧ c + 1 ≤ 1000000 ∧ S.hp = b :: a :: h ∧
  FinM K C CM CT H0 A.p (c + 1) Q E (match bnd (jn sg a b) with | .ok i => .ok { S with hp := i :: h } | .error d => .stop S.mv d)
theorem scLay : FnScope ["machine", "sign", "pair"] ["machine", "sign"] (defScope sLay) := ⟨rfl, rfl, rfl, by decide +kernel, rfl, by decide +kernel, by decide +kernel⟩
theorem ok_lay (T : MT K mg CM CT) (MMn : Mt P w K mg base CM "take_many" 2 ["self", "many"] (spMany CM CT)) (FB : Fn P w K mg base "bounded" 3 ["number"] (spBounded K C)) (FJ : Fn P w K mg base "joined" 1 ["sign", "first", "second"] spJoined)
    (F : Fun K "lay_joined" "lay_joined" sLay f fd') : FnOk P w K mg base (CX1 P w) 4 f fd' ["machine", "sign"] (spLay K C CM CT) := by
  have nd := scLay.nd
  refine F.ok1 scLay (fun vs H Q E h => ?_) (fun cdv A outer s H vs Q E hr h => ?_)
  · obtain ⟨H0, A, S, c, sg, a, b, h, rfl, _⟩ := h
    rfl
  obtain ⟨H0, A, S, c, sg, a, b, h, rfl, M, hc, eh, q⟩ := h
  have hr1 : Room 1 _ := hr.mono (by decide)
  have hr2 : Room 2 _ := hr.mono (by decide)
  refine ⟨_, (pss_cons (ps_set (i := 2) nd rfl (Or.inl rfl) (pf_meth MMn (pv 0) hr2 (pass1 (E := E)) (pa_cons pe_int pa_nil)))
    (pss_one (ps_expr (pe_bm PySem.F.plainAttrs_list PySem.F.slot_list_append PySem.F.type_list_append mt_append (pe_fld (pv 0) rfl) (pa_cons (pf_call FB hr rfl (pass1 (E := E)) (pa_cons (pf_call FJ hr1 rfl (pass1 (E := E)) (pa_cons (pv 1) (pa_cons (pe_ix ix_list (pv 2) pe_int (fun _ _ => rfl)) (pa_cons (pe_ix ix_list (pv 2) pe_int (fun _ _ => rfl)) pa_nil)))) pa_nil)) pa_nil))))), ?_⟩
  refine ⟨_, rfl, _, _, _, rfl, M.run, rfl, H0, A, S, c, [b, a], h, rfl, M, eh, (by show 2 ≤ 1000; decide), fun l H1 M1 hl ol => ?_⟩
  have ba : Bg a := M.big a (by rw [eh]; simp)
  have bb : Bg b := M.big b (by rw [eh]; simp)
  refine ⟨_, rfl, _, _, _, _, _, rfl, M1.run, T.clM, T.nHeap, rfl, .inl ⟨rfl, _, SqL.of M1.hp⟩, _, rfl, _, rfl, l, _, 0, .int a, rfl, rfl, SqL.of hl, rfl, _, rfl, l, _, 1, .int b, rfl, rfl, SqL.of hl, rfl, sg, a, b, rfl, ⟨ba, bb⟩, jn sg a b, rfl, ?_⟩
  cases e : bnd (jn sg a b) with
  | error d =>
    rw [e] at q
    exact FinM.xe M1 rfl q
  | ok i =>
    rw [e] at q
    obtain ⟨rfl, bd⟩ := bnd_ok e
    exact ⟨A.hp, _, .int (jn sg a b), rfl, rfl, M1.hp, M1.lenh, q _ A (M1.pushh (bg_small bd) hc) rfl⟩
theorem ok_djoin {st : Stmt} {nm sg wd : Str} (sc : FnScope ["machine", "row"] ["machine", "row"] (defScope st)) (es : sgn wd = sg) (F : Fun K nm nm st f fd')
    (hb : ∀ (cdv : Value) (A : Around) (outer : List Env) (s : Shared) (H : Hp) (E : XK), Room 4 (A.deeper (PyProof.Rows.envOfC nm (defScope st) s.heap.objs.size f cdv)) → PSs (cx1 P w K mg base ["machine", "row"] nm (defScope st) f cdv A outer s H E) (defBody st) (tDrop (tCall (spLay K C CM CT) [] E (tCons (tVar 0) (tCons (tC (.str sg)) tNil))))) :
    FnOk P w K mg base (CX1 P w) 5 f fd' ["machine", "row"] (spOp K C CM CT fun r => r = .join wd) := by
  refine F.ok1 sc (fun vs H Q E h => ?_) (fun cdv A outer s H vs Q E hr h => ?_)
  · obtain ⟨H0, A, S, c, v, r, rfl, _⟩ := h
    rfl
  obtain ⟨H0, A, S, c, v, _, rfl, M, hc, hv, rk, rfl, q⟩ := h
  refine ⟨_, hb cdv _ outer s H E hr, ?_⟩
  cases eh : S.hp with
  | nil => rw [opM, eh] at q; exact q.elim
  | cons b t =>
    cases t with
    | nil => rw [opM, eh] at q; exact q.elim
    | cons a h =>
      rw [opM_join eh, es] at q
      exact ⟨_, rfl, H0, A, S, c, sg, a, b, h, rfl, M, hc, eh, q⟩
theorem ok_dadd (FL : Fn P w K mg base "lay_joined" 4 ["machine", "sign"] (spLay K C CM CT)) (F : Fun K "do_add" "do_add" sDAdd f fd') : FnOk P w K mg base (CX1 P w) 5 f fd' ["machine", "row"] (spOp K C CM CT fun r => r = .join "add") :=
  ok_djoin (sg := "+") ⟨rfl, rfl, rfl, by decide +kernel, rfl, by decide +kernel, by decide +kernel⟩ (by decide +kernel) F fun cdv A outer s H E hr => (pss_one (ps_expr (pf_call FL hr rfl (pass1 (E := E)) (pa_cons (pv 0) (pa_cons pe_str pa_nil)))))
theorem ok_dsub (FL : Fn P w K mg base "lay_joined" 4 ["machine", "sign"] (spLay K C CM CT)) (F : Fun K "do_sub" "do_sub" sDSub f fd') : FnOk P w K mg base (CX1 P w) 5 f fd' ["machine", "row"] (spOp K C CM CT fun r => r = .join "sub") :=
  ok_djoin (sg := "-") ⟨rfl, rfl, rfl, by decide +kernel, rfl, by decide +kernel, by decide +kernel⟩ (by decide +kernel) F fun cdv A outer s H E hr => (pss_one (ps_expr (pf_call FL hr rfl (pass1 (E := E)) (pa_cons (pv 0) (pa_cons pe_str pa_nil)))))
theorem ok_dmul (FL : Fn P w K mg base "lay_joined" 4 ["machine", "sign"] (spLay K C CM CT)) (F : Fun K "do_mul" "do_mul" sDMul f fd') : FnOk P w K mg base (CX1 P w) 5 f fd' ["machine", "row"] (spOp K C CM CT fun r => r = .join "mul") :=
  ok_djoin (sg := "*") ⟨rfl, rfl, rfl, by decide +kernel, rfl, by decide +kernel, by decide +kernel⟩ (by decide +kernel) F fun cdv A outer s H E hr => (pss_one (ps_expr (pf_call FL hr rfl (pass1 (E := E)) (pa_cons (pv 0) (pa_cons pe_str pa_nil)))))
/-! ### less, same -/
theorem scDLess : FnScope ["machine", "row", "pair"] ["machine", "row"] (defScope sDLess) := ⟨rfl, rfl, rfl, by decide +kernel, rfl, by decide +kernel, by decide +kernel⟩
theorem ok_dless (T : MT K mg CM CT) (MMn : Mt P w K mg base CM "take_many" 2 ["self", "many"] (spMany CM CT)) (F : Fun K "do_less" "do_less" sDLess f fd') : FnOk P w K mg base (CX1 P w) 5 f fd' ["machine", "row"] (spOp K C CM CT fun r => r = .comp "less") := by
  have nd := scDLess.nd
  refine F.ok1 scDLess (fun vs H Q E h => ?_) (fun cdv A outer s H vs Q E hr h => ?_)
  · obtain ⟨H0, A, S, c, v, r, rfl, _⟩ := h
    rfl
  obtain ⟨H0, A, S, c, v, _, rfl, M, hc, hv, rk, rfl, q⟩ := h
  have hr2 : Room 2 _ := hr.mono (by decide)
  refine ⟨_, (pss_cons (ps_set (i := 2) nd rfl (Or.inl rfl) (pf_meth MMn (pv 0) hr2 (pass1 (E := E)) (pa_cons pe_int pa_nil)))
    (pss_one (ps_expr (pe_bm PySem.F.plainAttrs_list PySem.F.slot_list_append PySem.F.type_list_append mt_append (pe_fld (pv 0) rfl) (pa_cons (pe_ifExp (pt_cmpR op_lt (pe_ix ix_list (pv 2) pe_int (fun _ _ => rfl)) (pe_ix ix_list (pv 2) pe_int (fun _ _ => rfl)) (nomark _)) pe_int pe_int) pa_nil))))), ?_⟩
  cases eh : S.hp with
  | nil => rw [opM, eh] at q; exact q.elim
  | cons b t =>
    cases t with
    | nil => rw [opM, eh] at q; exact q.elim
    | cons a h =>
      rw [opM_comp eh] at q
      refine ⟨_, rfl, _, _, _, rfl, M.run, rfl, H0, A, S, c, [b, a], h, rfl, M, eh, (by show 2 ≤ 1000; decide), fun l H1 M1 hl ol => ?_⟩
      refine ⟨_, rfl, _, _, _, _, _, rfl, M1.run, T.clM, T.nHeap, rfl, .inl ⟨rfl, _, SqL.of M1.hp⟩, _, rfl, l, _, 0, .int a, rfl, rfl, SqL.of hl, rfl, _, rfl, l, _, 1, .int b, rfl, rfl, SqL.of hl, rfl, _, _, rfl, rfl, _, rfl, ?_⟩
      have e0 : cmpI "less" a b = if a < b then 1 else 0 := by unfold cmpI; rw [if_pos rfl]
      rw [e0] at q
      refine ite2 (fun x => ?_) (fun x => ?_)
      · rw [if_pos (of_decide_eq_true x)] at q
        exact ⟨A.hp, _, .int 1, rfl, rfl, M1.hp, M1.lenh, q _ A (M1.pushh (bg_small (by decide)) hc) rfl⟩
      · rw [if_neg (of_decide_eq_false (Bool.eq_false_iff.mpr x))] at q
        exact ⟨A.hp, _, .int 0, rfl, rfl, M1.hp, M1.lenh, q _ A (M1.pushh (bg_small (by decide)) hc) rfl⟩
theorem scDSame : FnScope ["machine", "row", "pair"] ["machine", "row"] (defScope sDSame) := ⟨rfl, rfl, rfl, by decide +kernel, rfl, by decide +kernel, by decide +kernel⟩
theorem ok_dsame (T : MT K mg CM CT) (MMn : Mt P w K mg base CM "take_many" 2 ["self", "many"] (spMany CM CT)) (F : Fun K "do_same" "do_same" sDSame f fd') : FnOk P w K mg base (CX1 P w) 5 f fd' ["machine", "row"] (spOp K C CM CT fun r => r = .comp "same") := by
  have nd := scDSame.nd
  refine F.ok1 scDSame (fun vs H Q E h => ?_) (fun cdv A outer s H vs Q E hr h => ?_)
  · obtain ⟨H0, A, S, c, v, r, rfl, _⟩ := h
    rfl
  obtain ⟨H0, A, S, c, v, _, rfl, M, hc, hv, rk, rfl, q⟩ := h
  have hr2 : Room 2 _ := hr.mono (by decide)
  refine ⟨_, (pss_cons (ps_set (i := 2) nd rfl (Or.inl rfl) (pf_meth MMn (pv 0) hr2 (pass1 (E := E)) (pa_cons pe_int pa_nil)))
    (pss_one (ps_expr (pe_bm PySem.F.plainAttrs_list PySem.F.slot_list_append PySem.F.type_list_append mt_append (pe_fld (pv 0) rfl) (pa_cons (pe_ifExp (pt_cmpR op_eq (pe_ix ix_list (pv 2) pe_int (fun _ _ => rfl)) (pe_ix ix_list (pv 2) pe_int (fun _ _ => rfl)) (nomark _)) pe_int pe_int) pa_nil))))), ?_⟩
  cases eh : S.hp with
  | nil => rw [opM, eh] at q; exact q.elim
  | cons b t =>
    cases t with
    | nil => rw [opM, eh] at q; exact q.elim
    | cons a h =>
      rw [opM_comp eh] at q
      refine ⟨_, rfl, _, _, _, rfl, M.run, rfl, H0, A, S, c, [b, a], h, rfl, M, eh, (by show 2 ≤ 1000; decide), fun l H1 M1 hl ol => ?_⟩
      refine ⟨_, rfl, _, _, _, _, _, rfl, M1.run, T.clM, T.nHeap, rfl, .inl ⟨rfl, _, SqL.of M1.hp⟩, _, rfl, l, _, 0, .int a, rfl, rfl, SqL.of hl, rfl, _, rfl, l, _, 1, .int b, rfl, rfl, SqL.of hl, rfl, rfl, _, rfl, ?_⟩
      have e0 : cmpI "same" a b = if a = b then 1 else 0 := by unfold cmpI; rw [if_neg (by decide)]
      rw [e0] at q
      refine ite2 (fun x => ?_) (fun x => ?_)
      · have x' : V.int a = V.int b := of_decide_eq_true x
        rw [if_pos (V.int.inj x')] at q
        exact ⟨A.hp, _, .int 1, rfl, rfl, M1.hp, M1.lenh, q _ A (M1.pushh (bg_small (by decide)) hc) rfl⟩
      · have x' : ¬ V.int a = V.int b := of_decide_eq_false (Bool.eq_false_iff.mpr x)
        rw [if_neg (fun z => x' (by rw [z]))] at q
        exact ⟨A.hp, _, .int 0, rfl, rfl, M1.hp, M1.lenh, q _ A (M1.pushh (bg_small (by decide)) hc) rfl⟩
/-! ### count, deeper, hold, move, stop -/
theorem scDCount : FnScope ["machine", "row"] ["machine", "row"] (defScope sDCount) := ⟨rfl, rfl, rfl, by decide +kernel, rfl, by decide +kernel, by decide +kernel⟩
theorem ok_dcount (T : MT K mg CM CT) (M1 : Mt P w K mg base CT "count_one" 3 ["self"] (spOne K C CM CT)) (F : Fun K "do_count" "do_count" sDCount f fd') : FnOk P w K mg base (CX1 P w) 5 f fd' ["machine", "row"] (spOp K C CM CT fun r => r = .count) := by
  refine F.ok1 scDCount (fun vs H Q E h => ?_) (fun cdv A outer s H vs Q E hr h => ?_)
  · obtain ⟨H0, A, S, c, v, r, rfl, _⟩ := h
    rfl
  obtain ⟨H0, A, S, c, v, _, rfl, M, hc, hv, rk, rfl, q⟩ := h
  have hr3 : Room 3 _ := hr.mono (by decide)
  refine ⟨_, (pss_one (ps_expr (pf_meth0 M1 (pe_fld (pv 0) rfl) hr3 (pass1 (E := E))))), ?_⟩
  refine ⟨_, rfl, _, _, _, _, _, rfl, M.run, T.clM, T.nTrack, rfl, _, _, _, rfl, M.tr, rfl, H0, A, S, c, rfl, M, ?_⟩
  rw [opM] at q
  by_cases e : S.cnt = 2000
  · rw [if_pos e] at q ⊢
    exact FinM.xe M rfl q
  · rw [if_neg e] at q ⊢
    have := M.le.2.2.2.2
    exact q _ A ((M.up (Nat.le_succ c) hc).setc (S.cnt + 1) (by omega)) rfl
theorem scDDeeper : FnScope ["machine", "row"] ["machine", "row"] (defScope sDDeeper) := ⟨rfl, rfl, rfl, by decide +kernel, rfl, by decide +kernel, by decide +kernel⟩
theorem ok_ddeeper (T : MT K mg CM CT) (FD : Fn P w K mg base "look_at_depth" 3 ["calls_before"] (spDepth K C)) (F : Fun K "do_deeper" "do_deeper" sDDeeper f fd') : FnOk P w K mg base (CX1 P w) 5 f fd' ["machine", "row"] (spOp K C CM CT fun r => r = .deeper) := by
  refine F.ok1 scDDeeper (fun vs H Q E h => ?_) (fun cdv A outer s H vs Q E hr h => ?_)
  · obtain ⟨H0, A, S, c, v, r, rfl, _⟩ := h
    rfl
  obtain ⟨H0, A, S, c, v, _, rfl, M, hc, hv, rk, rfl, q⟩ := h
  have hr3 : Room 3 _ := hr.mono (by decide)
  refine ⟨_, (pss_one (ps_expr (pf_call FD hr3 rfl (pass1 (E := E)) (pa_cons (pe_callB call_len_seq rfl T.len PySem.boot_len (pa_cons (pe_fld (pv 0) rfl) pa_nil)) pa_nil)))), ?_⟩
  refine ⟨_, rfl, _, _, _, _, _, rfl, M.run, T.clM, T.nReturns, rfl, A.rt, _, rfl, .inl (SqL.of M.rt), _, rfl, ?_⟩
  rw [List.length_map, List.length_reverse]
  rw [opM] at q
  by_cases e : 10 ≤ S.rt.length
  · rw [if_pos e] at q
    rw [if_pos (by omega)]
    exact FinM.xe M rfl q
  · rw [if_neg e] at q
    rw [if_neg (by omega)]
    exact q _ A (M.up (Nat.le_succ c) hc) rfl
theorem scDHold : FnScope ["machine", "row"] ["machine", "row"] (defScope sDHold) := ⟨rfl, rfl, rfl, by decide +kernel, rfl, by decide +kernel, by decide +kernel⟩
theorem ok_dhold (T : MT K mg CM CT) (MTk : Mt P w K mg base CM "take" 1 ["self"] (spTake CM CT)) (MH : Mt P w K mg base CT "make_hold" 1 ["self", "number"] (spHold CM CT)) (F : Fun K "do_hold" "do_hold" sDHold f fd') : FnOk P w K mg base (CX1 P w) 5 f fd' ["machine", "row"] (spOp K C CM CT fun r => r = .hold) := by
  refine F.ok1 scDHold (fun vs H Q E h => ?_) (fun cdv A outer s H vs Q E hr h => ?_)
  · obtain ⟨H0, A, S, c, v, r, rfl, _⟩ := h
    rfl
  obtain ⟨H0, A, S, c, v, _, rfl, M, hc, hv, rk, rfl, q⟩ := h
  have hr1 : Room 1 _ := hr.mono (by decide)
  refine ⟨_, (pss_one (ps_expr (pf_meth MH (pe_fld (pv 0) rfl) hr1 (pass1 (E := E)) (pa_cons (pf_meth0 MTk (pv 0) hr1 (pass1 (E := E))) pa_nil)))), ?_⟩
  cases eh : S.hp with
  | nil => rw [opM, eh] at q; exact q.elim
  | cons i h =>
    rw [opM_hold eh] at q
    have M1 := M.popd eh
    refine ⟨_, rfl, _, _, _, _, _, rfl, M.run, T.clM, T.nTrack, rfl, _, _, _, rfl, M.tr, rfl, _, rfl, _, _, _, rfl, M.run, rfl, H0, A, S, c, i, h, rfl, M, eh, ?_⟩
    refine ⟨H0, A, _, c + 1, i, rfl, M1.up (Nat.le_succ c) hc, Nat.lt_succ_of_le M.le.2.1, fun H' M' => q H' A M' rfl⟩
theorem scDMove : FnScope ["machine", "row"] ["machine", "row"] (defScope sDMove) := ⟨rfl, rfl, rfl, by decide +kernel, rfl, by decide +kernel, by decide +kernel⟩
theorem ok_dmove (T : MT K mg CM CT) (MTk : Mt P w K mg base CM "take" 1 ["self"] (spTake CM CT)) (MM : Mt P w K mg base CT "make_move" 4 ["self", "kind", "axis", "number", "by"] (spMove K C CM CT)) (F : Fun K "do_move" "do_move" sDMove f fd') : FnOk P w K mg base (CX1 P w) 5 f fd' ["machine", "row"] (spOp K C CM CT fun r => ∃ m a b, r = .move m a b) := by
  refine F.ok1 scDMove (fun vs H Q E h => ?_) (fun cdv A outer s H vs Q E hr h => ?_)
  · obtain ⟨H0, A, S, c, v, r, rfl, _⟩ := h
    rfl
  obtain ⟨H0, A, S, c, v, _, rfl, M, hc, hv, rk, ⟨m, a, b, rfl⟩, q⟩ := h
  have hr1 : Room 1 _ := hr.mono (by decide)
  obtain ⟨t, rfl, ht⟩ := tup_flat (m := [.str "move", .str m, .str a, .bl b]) (by simp [isS]) hv
  refine ⟨_, (pss_one (ps_expr (pf_meth MM (pe_fld (pv 0) rfl) hr (pass1 (E := E)) (pa_cons (pe_ix ix_tup (pv 1) pe_int (fun _ _ => rfl)) (pa_cons (pe_ix ix_tup (pv 1) pe_int (fun _ _ => rfl)) (pa_cons (pf_meth0 MTk (pv 0) hr1 (pass1 (E := E))) (pa_cons (pe_ix ix_tup (pv 1) pe_int (fun _ _ => rfl)) pa_nil))))))), ?_⟩
  cases eh : S.hp with
  | nil => rw [opM, eh] at q; exact q.elim
  | cons i h =>
    rw [opM_move eh] at q
    have M1 := M.popd eh
    have ht' := M.same.sqT ht
    refine ⟨_, rfl, _, _, _, _, _, rfl, M.run, T.clM, T.nTrack, rfl, _, _, _, rfl, M.tr, rfl, _, rfl, t, _, 1, .str m, rfl, rfl, ht', rfl, _, rfl, t, _, 2, .str a, rfl, rfl, ht', rfl, _, rfl, _, _, _, rfl, M.run, rfl, H0, A, S, c, i, h, rfl, M, eh, ?_⟩
    refine ⟨_, rfl, t, _, 3, .bl b, rfl, rfl, M1.same.sqT ht, rfl, H0, A, _, c + 1, m, a, i, b, rfl, M1.up (Nat.le_succ c) hc, rk, Nat.lt_succ_of_le M.le.2.1, ?_⟩
    show match bnd (if b = true then (look S.st a).getD 0 + i else i) with | .ok j => _ | .error d => _
    cases e : bnd (if b = true then (look S.st a).getD 0 + i else i) with
    | ok j =>
      rw [e] at q
      exact fun H' M' => q H' A M' rfl
    | error d =>
      rw [e] at q
      exact FinM.xe M1 rfl q
theorem scDStop : FnScope ["machine", "row"] ["machine", "row"] (defScope sDStop) := ⟨rfl, rfl, rfl, by decide +kernel, rfl, by decide +kernel, by decide +kernel⟩
theorem ok_dstop (St : StopT P w K mg base C fI fd) (F : Fun K "do_stop" "do_stop" sDStop f fd') : FnOk P w K mg base (CX1 P w) 5 f fd' ["machine", "row"] (spOp K C CM CT fun r => r = .stop) := by
  refine F.ok1 scDStop (fun vs H Q E h => ?_) (fun cdv A outer s H vs Q E hr h => ?_)
  · obtain ⟨H0, A, S, c, v, r, rfl, _⟩ := h
    rfl
  obtain ⟨H0, A, S, c, v, _, rfl, M, hc, hv, rk, rfl, q⟩ := h
  have hr2 : Room 2 _ := hr.mono (by decide)
  refine ⟨_, (pss_one (ps_raiseI St.S rfl rfl rfl flies1 St.ok hr2 St.bi (pa_cons (pe_tup (pa_cons pe_str pa_nil)) pa_nil))), ?_⟩
  exact ⟨le1, fun p hp => ⟨le1, stop_ok hp (.tup (SqT.of upd_same) (.cons (.str _) .nil)) (FinM.xe M rfl q)⟩⟩
end
end Car

set_option maxHeartbeats 1000000
namespace Car
open PySem L2
/-! ### jump, unless, call, back -/
theorem opM_unless {S : MS} {k i : Int} {t : List Int} (h1 : S.hp = i :: t) : opM S (.unless k) = if i = 0 then .ok { S with hp := t, pl := k } else .ok { S with hp := t } := by
  cases S
  cases h1
  rfl
theorem opM_back {S : MS} {n : Nm} {g : List Nm} {p : Int} {r : List Int} (h1 : S.fr = n :: g) (h2 : S.rt = p :: r) : opM S .back = .ok { S with pl := p, fr := g, rt := r } := by
  cases S
  cases h1
  cases h2
  rfl
theorem putN_big : ∀ (ps : List (Str × Int)) (n : Nm), (∀ p ∈ n, Bg p.2) → (∀ p ∈ ps, Bg p.2) → ∀ p ∈ putN n ps, Bg p.2
  | [], n, h, _ => h
  | p :: r, n, h, h2 => putN_big r (put n p.1 p.2) (put_big h (h2 p List.mem_cons_self)) fun q hq => h2 q (List.mem_cons_of_mem _ hq)
theorem last_at (xs : List V) (v : V) : (xs ++ [v])[(xs ++ [v]).length - 1]? = some v := by
  rw [List.length_append]
  show (xs ++ [v])[xs.length + 1 - 1]? = _
  rw [Nat.add_sub_cancel, List.getElem?_append_right (Nat.le_refl _), Nat.sub_self]
  rfl
section
variable {K : PySem.W.Frag} {H : Hp}
theorem call_dat {k : Int} {xs : List Str} {v : V} (r : Rp K H v (Rw.call k xs).dat) : ∃ t l, v = .ref t ∧ SqT K H t [.str "call", .int k, .ref l] ∧ SqL K H l (xs.map V.str) := by
  obtain ⟨t, ys, rfl, q, rs⟩ := r.tupO
  obtain ⟨x1, y1, rfl, r1, rs⟩ := rs.consO
  obtain ⟨x2, y2, rfl, r2, rs⟩ := rs.consO
  obtain ⟨x3, y3, rfl, r3, rs⟩ := rs.consO
  cases rs.nilO
  rw [r1.strO, r2.intO] at q
  obtain ⟨l, zs, rfl, hl, rz⟩ := r3.lstO
  have e : zs = xs.map V.str := rps_flat (m := xs.map V.str) (fun v hv => by
    obtain ⟨s, _, rfl⟩ := List.mem_map.mp hv
    exact True.intro) (by rw [List.map_map]; exact rz)
  rw [e] at hl
  exact ⟨t, l, rfl, q, hl⟩
end
section
variable {P : Program} {w : World} {K : PySem.W.Frag} {mg : Str → Option Value} {base : Heap} {C CM CT fI f : Addr} {fd fd' : FuncData}
theorem scDJump : FnScope ["machine", "row"] ["machine", "row"] (defScope sDJump) := ⟨rfl, rfl, rfl, by decide +kernel, rfl, by decide +kernel, by decide +kernel⟩
theorem ok_djump (T : MT K mg CM CT) (F : Fun K "do_jump" "do_jump" sDJump f fd') : FnOk P w K mg base (CX1 P w) 5 f fd' ["machine", "row"] (spOp K C CM CT fun r => ∃ k, r = .jump k) := by
  refine F.ok1 scDJump (fun vs H Q E h => ?_) (fun cdv A outer s H vs Q E hr h => ?_)
  · obtain ⟨H0, A, S, c, v, r, rfl, _⟩ := h
    rfl
  obtain ⟨H0, A, S, c, v, _, rfl, M, hc, hv, rk, ⟨k, rfl⟩, q⟩ := h
  obtain ⟨t, rfl, ht⟩ := tup_flat (m := [.str "jump", .int k]) (by simp [isS]) hv
  refine ⟨_, (pss_one (ps_fld (pv 0) (pe_ix ix_tup (pv 1) pe_int (fun _ _ => rfl)) rfl)), ?_⟩
  refine ⟨_, rfl, t, _, 1, .int k, rfl, rfl, M.same.sqT ht, rfl, _, rfl, A.p, CM, A.dx, _, rfl, M.run, T.clM, T.nPlace, (by show 5 < 1000; decide), ?_⟩
  exact q _ A ((M.up (Nat.le_succ c) hc).setp k) rfl
theorem scDUnless : FnScope ["machine", "row"] ["machine", "row"] (defScope sDUnless) := ⟨rfl, rfl, rfl, by decide +kernel, rfl, by decide +kernel, by decide +kernel⟩
theorem ok_dunless (T : MT K mg CM CT) (MTk : Mt P w K mg base CM "take" 1 ["self"] (spTake CM CT)) (F : Fun K "do_unless" "do_unless" sDUnless f fd') : FnOk P w K mg base (CX1 P w) 5 f fd' ["machine", "row"] (spOp K C CM CT fun r => ∃ k, r = .unless k) := by
  refine F.ok1 scDUnless (fun vs H Q E h => ?_) (fun cdv A outer s H vs Q E hr h => ?_)
  · obtain ⟨H0, A, S, c, v, r, rfl, _⟩ := h
    rfl
  obtain ⟨H0, A, S, c, v, _, rfl, M, hc, hv, rk, ⟨k, rfl⟩, q⟩ := h
  have hr1 : Room 1 _ := hr.mono (by decide)
  obtain ⟨t, rfl, ht⟩ := tup_flat (m := [.str "unless", .int k]) (by simp [isS]) hv
  refine ⟨_, (pss_one (ps_if (pt_cmpR op_eq (pf_meth0 MTk (pv 0) hr1 (pass1 (E := E))) pe_int (nomark _)) (pss_one (ps_fld (pv 0) (pe_ix ix_tup (pv 1) pe_int (fun _ _ => rfl)) rfl)) pss_nil)), ?_⟩
  cases eh : S.hp with
  | nil => rw [opM, eh] at q; exact q.elim
  | cons i h =>
    rw [opM_unless eh] at q
    have M1 := M.popd eh
    refine ⟨_, rfl, _, _, _, rfl, M.run, rfl, H0, A, S, c, i, h, rfl, M, eh, rfl, _, rfl, ?_⟩
    refine ite2 (fun x => ?_) (fun x => ?_)
    · have x' : V.int i = V.int 0 := of_decide_eq_true x
      rw [if_pos (V.int.inj x')] at q
      refine ⟨_, rfl, t, _, 1, .int k, rfl, rfl, M1.same.sqT ht, rfl, _, rfl, A.p, CM, A.dx, _, rfl, M1.run, T.clM, T.nPlace, (by show 5 < 1000; decide), ?_⟩
      exact q _ A ((M1.up (Nat.le_succ c) hc).setp k) rfl
    · have x' : ¬ V.int i = V.int 0 := of_decide_eq_false (Bool.eq_false_iff.mpr x)
      rw [if_neg (fun z => x' (by rw [z]))] at q
      exact q _ A (M1.up (Nat.le_succ c) hc) rfl
theorem scDCall : FnScope ["machine", "row", "numbers"] ["machine", "row"] (defScope sDCall) := ⟨rfl, rfl, rfl, by decide +kernel, rfl, by decide +kernel, by decide +kernel⟩
theorem ok_dcall (T : MT K mg CM CT) (hz : mg "zip" = none) (MMn : Mt P w K mg base CM "take_many" 2 ["self", "many"] (spMany CM CT)) (F : Fun K "do_call" "do_call" sDCall f fd') : FnOk P w K mg base (CX1 P w) 5 f fd' ["machine", "row"] (spOp K C CM CT fun r => ∃ k xs, r = .call k xs) := by
  have nd := scDCall.nd
  refine F.ok1 scDCall (fun vs H Q E h => ?_) (fun cdv A outer s H vs Q E hr h => ?_)
  · obtain ⟨H0, A, S, c, v, r, rfl, _⟩ := h
    rfl
  obtain ⟨H0, A, S, c, v, _, rfl, M, hc, hv, rk, ⟨k, xs, rfl⟩, q⟩ := h
  have hr2 : Room 2 _ := hr.mono (by decide)
  have rk' : xs.length ≤ 1000 := rk
  obtain ⟨t, l, rfl, ht, hl⟩ := call_dat hv
  refine ⟨_, (pss_cons (ps_set (i := 2) nd rfl (Or.inl rfl) (pf_meth MMn (pv 0) hr2 (pass1 (E := E)) (pa_cons (pe_callB call_len_seq rfl T.len PySem.boot_len (pa_cons (pe_ix ix_tup (pv 1) pe_int (fun _ _ => rfl)) pa_nil)) pa_nil)))
    (pss_cons (ps_expr (pe_bm PySem.F.plainAttrs_list PySem.F.slot_list_append PySem.F.type_list_append mt_append (pe_fld (pv 0) rfl) (pa_cons (pe_dictzip rfl rfl T.dict rfl hz (pa_cons (pe_ix ix_tup (pv 1) pe_int (fun _ _ => rfl)) (pa_cons (pv 2) pa_nil))) pa_nil)))
    (pss_cons (ps_expr (pe_bm PySem.F.plainAttrs_list PySem.F.slot_list_append PySem.F.type_list_append mt_append (pe_fld (pv 0) rfl) (pa_cons (pe_fld (pv 0) rfl) pa_nil)))
    (pss_one (ps_fld (pv 0) (pe_ix ix_tup (pv 1) pe_int (fun _ _ => rfl)) rfl))))), ?_⟩
  have q' : FinM K C CM CT H0 A.p (c + 1) Q E (if xs.length ≤ S.hp.length then .ok { S with pl := k, hp := S.hp.drop xs.length, fr := putN [] (xs.zip (S.hp.take xs.length).reverse) :: S.fr, rt := S.pl :: S.rt } else .bad) := q
  by_cases hx : xs.length ≤ S.hp.length
  · rw [if_pos hx] at q'
    have hlen : (S.hp.take xs.length).length = xs.length := by rw [List.length_take]; omega
    refine ⟨_, rfl, _, _, _, rfl, M.run, rfl, _, rfl, t, _, 2, .ref l, rfl, rfl, M.same.sqT ht, rfl, l, _, rfl, .inl (M.same.seq hl), H0, A, S, c, S.hp.take xs.length, S.hp.drop xs.length, ?_, M, (List.take_append_drop _ _).symm, by omega, fun l2 H1 M1 hl2 ol => ?_⟩
    · rw [hlen, List.length_map]
      rfl
    have hks : (xs.map (Sum.inr : Str → Key)).map kV = xs.map V.str := by rw [List.map_map]; rfl
    refine ⟨_, rfl, _, _, _, _, _, rfl, M1.run, T.clM, T.nFrames, rfl, .inl ⟨rfl, _, SqL.of M1.fr⟩, _, rfl, t, _, 2, .ref l, rfl, rfl, M1.same.sqT ht, rfl, _, rfl, l, l2, xs.map (Sum.inr : Str → Key), _, rfl, by rw [hks]; exact M1.same.seq hl, SqL.of hl2, fun d hd => ?_⟩
    rw [show putAllK [] ((xs.map (Sum.inr : Str → Key)).zip ((S.hp.take xs.length).reverse.map V.int)) = envD (putN [] (xs.zip (S.hp.take xs.length).reverse)) from putN_env xs _ []]
    have hzl : (xs.zip (S.hp.take xs.length).reverse).length ≤ 1000 := by
      rw [List.length_zip]
      omega
    have hnl := putN_len (xs.zip (S.hp.take xs.length).reverse) []
    have hbg : ∀ p ∈ putN [] (xs.zip (S.hp.take xs.length).reverse), Bg p.2 := putN_big _ [] (fun p hp => by cases hp) (fun p hp => M.big p.2 (by
      have := (List.of_mem_zip (show (p.1, p.2) ∈ _ from hp)).2
      exact List.mem_of_mem_take (List.mem_reverse.mp this)))
    generalize putN [] (xs.zip (S.hp.take xs.length).reverse) = nw at hnl hbg q'
    have nw0 : nw.length ≤ c + 1000 := by
      rw [List.length_nil] at hnl
      omega
    have dsl : (A.ds.reverse.map V.ref).length < sizeLine := by
      rw [List.length_map, List.length_reverse]
      have := M.en.len
      exact Nat.lt_of_le_of_lt (show A.ds.length ≤ 1000001 by omega) (by decide)
    refine ⟨A.fr, _, .ref d, rfl, rfl, same_upd hd _ _ _ M1.fr, dsl, ?_⟩
    have M2 := (M1.up (Nat.le_succ c) hc).pushf hd hbg (by omega) (show S.fr.length ≤ c + 1 from M.en.len.2)
    generalize upd (upd H1 d (.dK (envD nw))) A.fr (.lst (A.ds.reverse.map V.ref ++ [.ref d])) = H2 at M2
    have rtl : (S.rt.reverse.map V.int).length < sizeLine := by
      rw [List.length_map, List.length_reverse]
      exact line6 M.le.2.2.1 M.le.2.2.2.1
    refine ⟨_, rfl, _, _, _, _, _, rfl, M2.run, T.clM, T.nReturns, rfl, .inl ⟨rfl, _, SqL.of M2.rt⟩, _, rfl, _, _, _, _, _, rfl, M2.run, T.clM, T.nPlace, rfl, A.rt, _, .int S.pl, rfl, rfl, M2.rt, rtl, ?_⟩
    have M3 := M2.setr (S.pl :: S.rt) (by rw [List.length_cons]; exact Nat.succ_le_succ M.le.2.2.1)
    rw [List.reverse_cons, List.map_append] at M3
    refine ⟨_, rfl, t, _, 1, .int k, rfl, rfl, M3.same.sqT ht, rfl, _, rfl, A.p, CM, A.dx, _, rfl, M3.run, T.clM, T.nPlace, (by show 5 < 1000; decide), ?_⟩
    exact q' _ _ (M3.setp k) rfl
  · rw [if_neg hx] at q'
    exact q'.elim
theorem scDBack : FnScope ["machine", "row"] ["machine", "row"] (defScope sDBack) := ⟨rfl, rfl, rfl, by decide +kernel, rfl, by decide +kernel, by decide +kernel⟩
theorem ok_dback (T : MT K mg CM CT) (F : Fun K "do_back" "do_back" sDBack f fd') : FnOk P w K mg base (CX1 P w) 5 f fd' ["machine", "row"] (spOp K C CM CT fun r => r = .back) := by
  refine F.ok1 scDBack (fun vs H Q E h => ?_) (fun cdv A outer s H vs Q E hr h => ?_)
  · obtain ⟨H0, A, S, c, v, r, rfl, _⟩ := h
    rfl
  obtain ⟨H0, A, S, c, v, _, rfl, M, hc, hv, rk, rfl, q⟩ := h
  refine ⟨_, (pss_cons (ps_expr (pe_bm0 PySem.F.plainAttrs_list PySem.F.slot_list_pop PySem.F.type_list_pop mt_pop (pe_fld (pv 0) rfl)))
    (pss_one (ps_fld (pv 0) (pe_bm0 PySem.F.plainAttrs_list PySem.F.slot_list_pop PySem.F.type_list_pop mt_pop (pe_fld (pv 0) rfl)) rfl))), ?_⟩
  cases ef : S.fr with
  | nil => rw [opM, ef] at q; exact q.elim
  | cons n g =>
  cases er : S.rt with
  | nil => rw [opM, ef, er] at q; exact q.elim
  | cons p r =>
    rw [opM_back ef er] at q
    cases ed : A.ds with
    | nil =>
      have en := M.en
      rw [ed, ef] at en
      exact en.elim
    | cons d ds =>
      have hfr := M.fr
      rw [ed, List.reverse_cons, List.map_append] at hfr
      have M1 := M.popf ed ef
      have hrt := M1.rt
      have er1 : ({ S with fr := g } : MS).rt = p :: r := er
      rw [er1, List.reverse_cons, List.map_append] at hrt
      refine ⟨_, rfl, _, _, _, _, _, rfl, M.run, T.clM, T.nFrames, rfl, .inl ⟨rfl, _, SqL.of hfr⟩, A.fr, _, .ref d, rfl, rfl, hfr, last_at _ _, ?_⟩
      rw [show (List.map V.ref ds.reverse ++ List.map V.ref [d]).dropLast = List.map V.ref ds.reverse from List.dropLast_concat]
      refine ⟨_, rfl, _, _, _, _, _, rfl, M1.run, T.clM, T.nReturns, rfl, .inl ⟨rfl, _, SqL.of hrt⟩, A.rt, _, .int p, rfl, rfl, hrt, last_at _ _, ?_⟩
      rw [show (List.map V.int r.reverse ++ List.map V.int [p]).dropLast = List.map V.int r.reverse from List.dropLast_concat]
      have M2 := M1.setr r (by have := M.le.2.2.1; rw [er, List.length_cons] at this; omega)
      refine ⟨_, rfl, A.p, CM, A.dx, _, rfl, M2.run, T.clM, T.nPlace, (by show 5 < 1000; decide), ?_⟩
      exact q _ _ ((M2.up (Nat.le_succ c) hc).setp p) rfl
end
end Car

set_option maxHeartbeats 1000000
namespace L2
open PySem PySem.Spec PyProof.Rows
theorem pf_make0 {X : Cx} {k : Nat} {C : Addr} {ps : List Str} {sp : Sp} {E : XK} {x : Str} {p pos : Pos} (F : Mc X.prog X.w X.K X.mg X.base x C k ps sp) (hr : Room (k + 1) X.A) (hg : Gl X x) (hx : Passes (CX1 X.prog X.w) X E) (hdb : (x == ("__debug__" : Str)) = false := by decide) :
    PE X (.Call (.Name x p) [] [] pos) (tMake C sp [] E tNil) := by
  obtain ⟨f, fd, ok, mk, mgx, bi⟩ := F.ex
  exact pe_make0 mk ok hr hg mgx bi .nil hx hdb
end L2
namespace Car
open PySem L2
noncomputable abbrev begN : Nm := [("x", 0), ("y", 0), ("z", 1000)]
structure BegT (P : Program) (w : World) (K : PySem.W.Frag) (mg : Str → Option Value) : Prop where
  ex : ∃ a, mg "BEGINNING" = some (.ref a) ∧ DkK P w K a (envD begN)
section
variable {P : Program} {w : World} {K : PySem.W.Frag} {mg : Str → Option Value} {base : Heap} {C CM CT fI f : Addr} {fd fd' : FuncData}
/-! ### Track(), Machine() -/
noncomputable def spTrackI (CT : Addr) : Sp := fun vs H Q _ => ∃ x dx, vs = [.ref x] ∧ H x = some (.ins CT dx []) ∧ ∀ mv pl H', (∀ b o, b ≠ x → H b = some o → H' b = some o) → H' x = some (.ins CT dx (fT mv pl 0)) → H' mv = some (.lst []) → H' pl = some (.dK (envD begN)) → H mv = none → H pl = none → Q .non H'
theorem scTrackI : FnScope ["self"] ["self"] (defScope sTrackI) := ⟨rfl, rfl, rfl, by decide +kernel, rfl, by decide +kernel, by decide +kernel⟩
theorem ok_trackI (T : MT K mg CM CT) (B : BegT P w K mg) (F : Fun K "__init__" "Track.__init__" sTrackI f fd') : FnOk P w K mg base (CX1 P w) 1 f fd' ["self"] (spTrackI CT) := by
  refine F.ok1 scTrackI (fun vs H Q E h => ?_) (fun cdv A outer s H vs Q E hr h => ?_)
  · obtain ⟨x, dx, rfl, _⟩ := h
    rfl
  obtain ⟨x, dx, rfl, hx, q⟩ := h
  obtain ⟨ab, mgb, dkb⟩ := B.ex
  refine ⟨_, (pss_cons (ps_fld (pv 0) (pe_lst pa_nil) rfl)
    (pss_cons (ps_fld (pv 0) (pe_callTy call_dict_d rfl T.dict rfl (pa_cons (pe_glob (v := .ref ab) rfl mgb rfl) pa_nil)) rfl)
    (pss_one (ps_fld (pv 0) pe_int rfl)))), ?_⟩
  refine ⟨Nat.zero_le _, fun mv hmv => ?_⟩
  have xm : x ≠ mv := ne_of_none hx hmv
  refine ⟨_, rfl, x, CT, dx, _, rfl, same_upd hmv _ _ _ hx, T.clT, T.nMoves, (by decide), ?_⟩
  refine ⟨ab, _, rfl, .inr dkb, fun pl hpl => ?_⟩
  have px : pl ≠ x := fun z => by rw [z, upd_same] at hpl; cases hpl
  have pm : pl ≠ mv := fun z => by rw [z, upd_ne (Ne.symm xm), upd_same] at hpl; cases hpl
  refine ⟨_, rfl, x, CT, dx, _, rfl, (by rw [upd_ne (Ne.symm px)]; exact upd_same), T.clT, T.nPlaces, (by show 1 < 1000; decide), ?_⟩
  refine ⟨_, rfl, x, CT, dx, _, rfl, upd_same, T.clT, T.nCounted, (by show 2 < 1000; decide), ?_⟩
  refine q mv pl _ (fun b o hb e => ?_) upd_same ?_ ?_ hmv ?_
  · rw [upd_ne hb, upd_ne hb, upd_ne (fun z => ?_), upd_ne hb, upd_ne (fun z => ?_)]
    · exact e
    · rw [z, hmv] at e; cases e
    · subst z
      rw [upd_ne px, upd_ne pm] at hpl
      rw [hpl] at e
      cases e
  · rw [upd_ne (Ne.symm xm), upd_ne (Ne.symm xm), upd_ne (Ne.symm pm), upd_ne (Ne.symm xm), upd_same]
  · rw [upd_ne px, upd_ne px, upd_same]
  · rw [upd_ne px, upd_ne pm] at hpl
    exact hpl
noncomputable def S0 : MS := ⟨0, [], [[]], [], [], begN, 0⟩
noncomputable def spMachI (CM CT : Addr) : Sp := fun vs H Q _ => ∃ H0 x dx, vs = [.ref x] ∧ Same H0 H ∧ H0 x = none ∧ H x = some (.ins CM dx []) ∧ ∀ H' A', MIn CM CT H0 H' A' S0 0 → A'.p = x → Q .non H'
theorem scMachI : FnScope ["self"] ["self"] (defScope sMachI) := ⟨rfl, rfl, rfl, by decide +kernel, rfl, by decide +kernel, by decide +kernel⟩
theorem ok_machI (T : MT K mg CM CT) (MTr : Mc P w K mg base "Track" CT 1 ["self"] (spTrackI CT)) (F : Fun K "__init__" "Machine.__init__" sMachI f fd') : FnOk P w K mg base (CX1 P w) 3 f fd' ["self"] (spMachI CM CT) := by
  refine F.ok1 scMachI (fun vs H Q E h => ?_) (fun cdv A outer s H vs Q E hr h => ?_)
  · obtain ⟨H0, x, dx, rfl, _⟩ := h
    rfl
  obtain ⟨H0, x, dx, rfl, s0, nx, hx, q⟩ := h
  refine ⟨_, (pss_cons (ps_fld (pv 0) pe_int rfl)
    (pss_cons (ps_fld (pv 0) (pe_lst pa_nil) rfl)
    (pss_cons (ps_fld (pv 0) (pe_lst (pa_cons pe_dnewK pa_nil)) rfl)
    (pss_cons (ps_fld (pv 0) (pe_lst pa_nil) rfl)
    (pss_one (ps_fld (pv 0) (pf_make0 MTr hr rfl (pass1 (E := E))) rfl)))))), ?_⟩
  refine ⟨_, rfl, x, CM, dx, _, rfl, hx, T.clM, T.nPlace, (by decide), ?_⟩
  -- what is new is told apart by the heap ahead of it
  have key : ∀ (G : Hp) (fs : List (Str × V)) (p : Addr) (o : HO) (fs' : List (Str × V)), G x = some (.ins CM dx fs) → G p = none → (upd (upd G p o) x (.ins CM dx fs')) x = some (.ins CM dx fs') ∧ (upd (upd G p o) x (.ins CM dx fs')) p = some o ∧ (∀ b u, b ≠ x → G b = some u → (upd (upd G p o) x (.ins CM dx fs')) b = some u) ∧ p ≠ x := fun G fs p o fs' hG hp => by
    have px : p ≠ x := fun z => by rw [z, hG] at hp; cases hp
    refine ⟨upd_same, by rw [upd_ne px, upd_same], fun b u hb e => ?_, px⟩
    rw [upd_ne hb, upd_ne (fun z => by rw [z, hp] at e; cases e)]
    exact e
  have h1 : (upd H x (.ins CM dx (putF "place" (.int 0) []))) x = some (.ins CM dx (putF "place" (.int 0) [])) := upd_same
  have k1 : ∀ b u, b ≠ x → H b = some u → (upd H x (.ins CM dx (putF "place" (.int 0) []))) b = some u := fun b u hb e => by rw [upd_ne hb]; exact e
  generalize upd H x (.ins CM dx (putF "place" (.int 0) [])) = H1 at h1 k1
  refine ⟨Nat.zero_le _, fun hp hhp => ⟨_, rfl, x, CM, dx, _, rfl, same_upd hhp _ _ _ h1, T.clM, T.nHeap, (by show 1 < 1000; decide), ?_⟩⟩
  obtain ⟨h2, e2, k2, n2⟩ := key H1 _ hp (.lst []) (putF "heap" (.ref hp) (putF "place" (.int 0) [])) h1 hhp
  generalize upd (upd H1 hp (.lst [])) x (.ins CM dx (putF "heap" (.ref hp) (putF "place" (.int 0) []))) = H2 at h2 e2 k2
  refine fun d hd => ⟨le1, fun fr hfr => ⟨_, rfl, x, CM, dx, _, rfl, same_upd hfr _ _ _ (same_upd hd _ _ _ h2), T.clM, T.nFrames, (by show 2 < 1000; decide), ?_⟩⟩
  have hd2 := same_upd hd (.dK [])
  obtain ⟨h3, e3, k3, n3⟩ := key (upd H2 d (.dK [])) _ fr (.lst [.ref d]) (putF "frames" (.ref fr) (putF "heap" (.ref hp) (putF "place" (.int 0) []))) (hd2 _ _ h2) hfr
  have d3 : d ≠ x := fun z => by rw [z, h2] at hd; cases hd
  have ed3 := k3 d _ d3 upd_same
  have k23 : ∀ b u, b ≠ x → H2 b = some u → (upd (upd (upd H2 d (.dK [])) fr (.lst [.ref d])) x (.ins CM dx (putF "frames" (.ref fr) (putF "heap" (.ref hp) (putF "place" (.int 0) []))))) b = some u := fun b u hb e => k3 b u hb (hd2 _ _ e)
  have fr2 : H2 fr = none := hd2.free hfr
  have dfr : d ≠ fr := fun z => by rw [← z, upd_same] at hfr; cases hfr
  generalize upd (upd (upd H2 d (.dK [])) fr (.lst [.ref d])) x (.ins CM dx (putF "frames" (.ref fr) (putF "heap" (.ref hp) (putF "place" (.int 0) [])))) = H3 at h3 e3 ed3 k23
  refine ⟨Nat.zero_le _, fun rt hrt => ⟨_, rfl, x, CM, dx, _, rfl, same_upd hrt _ _ _ h3, T.clM, T.nReturns, (by show 3 < 1000; decide), ?_⟩⟩
  obtain ⟨h4, e4, k4, n4⟩ := key H3 _ rt (.lst []) (putF "returns" (.ref rt) (putF "frames" (.ref fr) (putF "heap" (.ref hp) (putF "place" (.int 0) [])))) h3 hrt
  generalize upd (upd H3 rt (.lst [])) x (.ins CM dx (putF "returns" (.ref rt) (putF "frames" (.ref fr) (putF "heap" (.ref hp) (putF "place" (.int 0) []))))) = H4 at h4 e4 k4
  refine fun t tdx ht htd tdn => ⟨t, tdx, rfl, upd_same, fun mv pl H5 k5 ht5 hmv5 hpl5 hmv hpl => ⟨rfl, ?_⟩⟩
  have tH4 : ∀ b u, H4 b = some u → b ≠ t ∧ b ≠ tdx := fun b u e => ⟨(fun z => by rw [z, ht] at e; cases e), (fun z => by rw [z, htd] at e; cases e)⟩
  have k45 : ∀ b u, H4 b = some u → H5 b = some u := fun b u e => k5 b u (tH4 b u e).1 (by rw [upd_ne (tH4 b u e).1, upd_ne (tH4 b u e).2]; exact e)
  have mvt : mv ≠ t := fun z => by rw [z, upd_same] at hmv; cases hmv
  have plt : pl ≠ t := fun z => by rw [z, upd_same] at hpl; cases hpl
  have mvd : mv ≠ tdx := fun z => by rw [z, upd_ne tdn, upd_same] at hmv; cases hmv
  have pld : pl ≠ tdx := fun z => by rw [z, upd_ne tdn, upd_same] at hpl; cases hpl
  have hmv4 : H4 mv = none := by rw [upd_ne mvt, upd_ne mvd] at hmv; exact hmv
  have hpl4 : H4 pl = none := by rw [upd_ne plt, upd_ne pld] at hpl; exact hpl
  have h5 := k45 _ _ h4
  refine ⟨_, rfl, x, CM, dx, _, rfl, h5, T.clM, T.nTrack, (by show 4 < 1000; decide), ?_⟩
  have ne4 : ∀ b u, H4 b = some u → b ≠ mv ∧ b ≠ pl := fun b u e => ⟨(fun z => by rw [z, hmv4] at e; cases e), (fun z => by rw [z, hpl4] at e; cases e)⟩
  have ehp : H4 hp = some (.lst []) := k4 _ _ n2 (k23 _ _ n2 e2)
  have efr : H4 fr = some (.lst [.ref d]) := k4 _ _ n3 e3
  have ed : H4 d = some (.dK []) := k4 _ _ d3 ed3
  have xt : x ≠ t := (tH4 _ _ h4).1
  have up : ∀ b u, b ≠ x → H5 b = some u → (upd H5 x (.ins CM dx (putF "track" (.ref t) (putF "returns" (.ref rt) (putF "frames" (.ref fr) (putF "heap" (.ref hp) (putF "place" (.int 0) []))))))) b = some u := fun b u hb e => by rw [upd_ne hb]; exact e
  have old : ∀ b, H4 b = none → H0 b = none := fun b e => by
    cases z : H0 b with
    | none => rfl
    | some u =>
      have bx : b ≠ x := fun y => by rw [y, nx] at z; cases z
      rw [k4 b u bx (k23 b u bx (k2 b u bx (k1 b u bx (s0 _ _ z))))] at e
      cases e
  have o1 : ∀ b, H1 b = none → H0 b = none := fun b e => by
    cases z : H0 b with
    | none => rfl
    | some u =>
      have bx : b ≠ x := fun y => by rw [y, nx] at z; cases z
      rw [k1 b u bx (s0 _ _ z)] at e
      cases e
  have o2 : ∀ b, H2 b = none → H0 b = none := fun b e => o1 b (by
    cases z : H1 b with
    | none => rfl
    | some u =>
      have bx : b ≠ x := fun y => by rw [y, h2] at e; cases e
      rw [k2 b u bx z] at e
      cases e)
  have o3 : ∀ b, H3 b = none → H0 b = none := fun b e => o2 b (by
    cases z : H2 b with
    | none => rfl
    | some u =>
      have bx : b ≠ x := fun y => by rw [y, h3] at e; cases e
      rw [k23 b u bx z] at e
      cases e)
  refine q _ ⟨x, dx, hp, fr, rt, t, tdx, mv, pl, [d]⟩ ?_ rfl
  have mx : mv ≠ x := fun z => by rw [z, h4] at hmv4; cases hmv4
  have px : pl ≠ x := fun z => by rw [z, h4] at hpl4; cases hpl4
  refine ⟨⟨nx, o1 _ hhp, o2 _ fr2, o3 _ hrt, old _ ht, old _ hmv4, old _ hpl4, ?_, by simp, ?_, xt, ?_, ?_, (ne4 _ _ ehp).1, ?_, (ne4 _ _ efr).1, (ne4 _ _ e4).1⟩, fun b u e => ?_, upd_same, up _ _ n2 (k45 _ _ ehp), up _ _ n3 (k45 _ _ efr), up _ _ n4 (k45 _ _ e4), up _ _ (Ne.symm xt) ht5, ⟨[], up _ _ mx hmv5, True.intro⟩, up _ _ px hpl5, rfl, ⟨⟨up _ _ d3 (k45 _ _ ed), (fun p hp => by cases hp), ⟨Nat.zero_le _, Nat.zero_le _⟩⟩, True.intro⟩, (fun i hi => by cases hi), by decide⟩
  · intro z hz
    have : z = d := by simpa using hz
    rw [this]
    exact o2 _ hd
  · intro z
    have : pl = d := by simpa using z
    exact (ne4 _ _ ed).2 this.symm
  · intro z
    have z' : hp = fr := z
    rw [z', fr2] at e2
    cases e2
  · intro z
    have z' : hp = rt := z
    rw [z'] at e2
    rw [k23 _ _ (by rw [← z']; exact n2) e2] at hrt
    cases hrt
  · intro z
    have z' : fr = rt := z
    rw [z'] at e3
    rw [e3] at hrt
    cases hrt
  · have bx : b ≠ x := fun y => by rw [y, nx] at e; cases e
    exact up b u bx (k45 b u (k4 b u bx (k23 b u bx (k2 b u bx (k1 b u bx (s0 _ _ e))))))
end
end Car

set_option maxHeartbeats 1000000
namespace Car
open PySem L2
noncomputable def Rw.word : Rw → Str
  | .push _ => "push"
  | .load _ => "load"
  | .store _ => "store"
  | .join s => s
  | .comp s => s
  | .count => "count"
  | .deeper => "deeper"
  | .hold => "hold"
  | .move _ _ _ => "move"
  | .stop => "stop"
  | .jump _ => "jump"
  | .unless _ => "unless"
  | .call _ _ => "call"
  | .back => "back"
theorem dat_word {K : PySem.W.Frag} {H : Hp} {v : V} {r : Rw} (h : Rp K H v r.dat) : ∃ t ys, v = .ref t ∧ SqT K H t (.str r.word :: ys) := by
  have : ∃ ds, r.dat = .tuple (.str r.word :: ds) := by cases r <;> exact ⟨_, rfl⟩
  obtain ⟨ds, e⟩ := this
  rw [e] at h
  obtain ⟨t, xs, rfl, q, rs⟩ := h.tupO
  obtain ⟨x, ys, rfl, r1, _⟩ := rs.consO
  rw [r1.strO] at q
  exact ⟨t, ys, rfl, q⟩
structure DoT (P : Program) (w : World) (K : PySem.W.Frag) (mg : Str → Option Value) (base : Heap) (C CM CT : Addr) : Prop where
  ex : ∃ a kvs, mg "DOINGS" = some (.ref a) ∧ DkK P w K a kvs ∧ ∀ r : Rw, r.ok → ∃ f kind, valV kvs (Sum.inr r.word : Key) = some (.ref f) ∧ FnV P w K mg base 5 f ["machine", "row"] (spOp K C CM CT kind) ∧ kind r
noncomputable def runC (rows : List Rw) : Nat → MS → Option (List (List V) × PyData)
  | 0, _ => none
  | n + 1, S => if S.pl < 0 then none else match rows[S.pl.toNat]? with
    | none => none
    | some r => match opM { S with pl := S.pl + 1 } r with
      | .ok S' => runC rows n S'
      | .stop ms d => some (ms, d)
      | .bad => none
noncomputable def Told (K : PySem.W.Frag) (H H' : Hp) (t : Addr) (r : List (List V) × PyData) : Prop := ∃ m e ts, H' t = some (.tup [.ref m, e]) ∧ H' m = some (.lst (ts.map V.ref)) ∧ MvAt H' ts r.1 ∧ Rp K H' e r.2 ∧ H m = none ∧ H t = none
section
variable {P : Program} {w : World} {K : PySem.W.Frag} {mg : Str → Option Value} {base : Heap} {C CM CT fI f : Addr} {fd fd' : FuncData}
noncomputable def spStep (K : PySem.W.Frag) (C CM CT : Addr) : Sp := fun vs H Q E => ∃ (H0 : Hp) (A : MA) (S : MS) (c : Nat) (v : V) (rows : List Rw) (r : Rw), vs = [.ref A.p, v] ∧ MIn CM CT H0 H A S c ∧ c + 1 ≤ 1000000 ∧ Rp K H0 v (.list (rows.map Rw.dat)) ∧ 0 ≤ S.pl ∧ rows[S.pl.toNat]? = some r ∧ r.ok ∧ FinM K C CM CT H0 A.p (c + 1) Q E (opM { S with pl := S.pl + 1 } r)
theorem scStep : FnScope ["self", "code", "row"] ["self", "code"] (defScope sStep) := ⟨rfl, rfl, rfl, by decide +kernel, rfl, by decide +kernel, by decide +kernel⟩
theorem ok_step (T : MT K mg CM CT) (DT : DoT P w K mg base C CM CT) (F : Fun K "step" "Machine.step" sStep f fd') : FnOk P w K mg base (CX1 P w) 6 f fd' ["self", "code"] (spStep K C CM CT) := by
  have nd := scStep.nd
  refine F.ok1 scStep (fun vs H Q E h => ?_) (fun cdv A outer s H vs Q E hr h => ?_)
  · obtain ⟨H0, A, S, c, v, rows, r, rfl, _⟩ := h
    rfl
  obtain ⟨H0, A, S, c, v, rows, r, rfl, M, hc, hv, p0, hr', rk, q⟩ := h
  obtain ⟨da, kvs, hda, dk, disp⟩ := DT.ex
  refine ⟨_, (pss_cons (ps_set (i := 2) nd rfl (Or.inl rfl) (pe_ix ix_list (pv 1) (pe_fld (pv 0) rfl) (fun _ _ => rfl)))
    (pss_cons (ps_fldaug (pv 0) pe_int in_add)
    (pss_one (ps_expr (pe_do (pe_dgetC (pe_glob (v := .ref da) rfl hda rfl) (pe_ix ix_tup (pv 2) pe_int (fun _ _ => rfl)) (fun _ _ => rfl)) hr (pass1 (E := E)) (pa_cons (pv 0) (pa_cons (pv 2) pa_nil)) rfl))))), ?_⟩
  obtain ⟨l, xs, rfl, hl, rx⟩ := hv.lstO
  obtain ⟨y, ey, ry⟩ := rx.get (i := S.pl.toNat) (x := r.dat) (by rw [List.getElem?_map, hr']; rfl)
  have ea : atI xs S.pl = some y := by
    have := atI_nat ey
    rw [show ((S.pl.toNat : Nat) : Int) = S.pl by omega] at this
    exact this
  obtain ⟨t, ys, rfl, ht⟩ := dat_word ry
  obtain ⟨f1, kind, ev, FV, hk⟩ := disp r rk
  have M1 := M.setp (S.pl + 1)
  refine ⟨_, rfl, _, rfl, _, _, _, _, _, rfl, M.run, T.clM, T.nPlace, rfl, l, xs, S.pl, .ref t, rfl, rfl, M.same.seq hl, ea, ?_⟩
  refine ⟨_, rfl, _, _, _, _, _, rfl, M.run, T.clM, T.nPlace, rfl, _, _, rfl, rfl, _, _, M.run, (by show 5 < 1000; decide), ?_⟩
  refine ⟨_, rfl, t, _, 0, .str r.word, rfl, rfl, M1.same.sqT ht, atI_nat (j := 0) rfl, da, kvs, Sum.inr r.word, .ref f1, rfl, dk, rfl, ev, f1, _, _, rfl, FV, _, rfl, _, rfl, ?_⟩
  exact ⟨H0, A, _, c, .ref t, r, rfl, M1, hc, ry, rk, hk, q⟩
noncomputable def spDoCode (K : PySem.W.Frag) : Sp := fun vs H Q _ => ∃ (v : V) (rows : List Rw) (n : Nat) (res : List (List V) × PyData), vs = [v] ∧ Rp K H v (.list (rows.map Rw.dat)) ∧ (∀ r ∈ rows, Rw.ok r) ∧ n ≤ 1000000 ∧ runC rows n S0 = some res ∧ ∀ t H', Same H H' → Told K H H' t res → Q (.ref t) H'
theorem scDoCode : FnScope ["code", "machine", "stop"] ["code"] (defScope sDoCode) := ⟨rfl, rfl, rfl, by decide +kernel, rfl, by decide +kernel, by decide +kernel⟩
theorem ok_doCode (T : MT K mg CM CT) (S : StopT P w K mg base C fI fd) (CC : CatchC K mg "Stop" C) (hm : PySem.W.mroIn K C (.ref C) = some true) (MMc : Mc P w K mg base "Machine" CM 3 ["self"] (spMachI CM CT)) (MS : Mt P w K mg base CM "step" 6 ["self", "code"] (spStep K C CM CT))
    (F : Fun K "do_code" "do_code" sDoCode f fd') : FnOk P w K mg base (CX1 P w) 7 f fd' ["code"] (spDoCode K) := by
  have nd := scDoCode.nd
  obtain ⟨fg, fdg, okg, mtg, clg, big⟩ := MS.ex
  refine F.ok1 scDoCode (fun vs H Q E h => ?_) (fun cdv A outer s H vs Q E hr h => ?_)
  · obtain ⟨v, rows, n, res, rfl, _⟩ := h
    rfl
  obtain ⟨v, rows, n, res, rfl, hv, rok, hn, hrun, q⟩ := h
  have hr4 : Room 4 _ := hr.mono (by decide)
  refine ⟨_, (pss_cons (ps_set (i := 1) nd rfl (Or.inl rfl) (pf_make0 MMc hr4 rfl (pass1 (E := E))))
    (pss_one (ps_tryLoop (i := 2) rfl rfl rfl (px_meth (fun _ => pv 1) clg mtg okg hr big (fun _ => pa_cons (pv 0) pa_nil)) CC rfl nd rfl rfl (fun _ => pss_one (ps_ret (pe_tup (pa_cons (pe_fldK (K := K) rfl (pe_fldK (K := K) rfl (pv 1) rfl) rfl) (pa_cons (pe_xfld S.S (pv 2) rfl) pa_nil))))) rfl))), ?_⟩
  refine fun x dx hx hdx hne => ⟨H, x, dx, rfl, same_in (same_upd hdx _) hx, hx, upd_same, fun H1 A1 M1 ep => ⟨rfl, ?_⟩⟩
  refine ⟨fun m H2 => ∃ A2 S2 c, MIn CM CT H H2 A2 S2 c ∧ A2.p = x ∧ c + m ≤ 1000000 ∧ runC rows m S2 = some res, ⟨n, A1, S0, 0, M1, ep, by omega, hrun⟩, ?_⟩
  rintro m H2 ⟨A2, S2, c, M2, ep2, hcm, hr2⟩
  cases m with
  | zero => cases hr2
  | succ m =>
    rw [runC] at hr2
    by_cases hp : S2.pl < 0
    · rw [if_pos hp] at hr2
      cases hr2
    · rw [if_neg hp] at hr2
      cases hrow : rows[S2.pl.toNat]? with
      | none => rw [hrow] at hr2; cases hr2
      | some r =>
        rw [hrow] at hr2
        have hr3 : (match opM { S2 with pl := S2.pl + 1 } r with | .ok S' => runC rows m S' | .stop ms d => some (ms, d) | .bad => none) = some res := hr2
        have run2 := M2.run
        rw [ep2] at run2
        refine ⟨_, rfl, x, _, _, rfl, run2, rfl, _, rfl, H, A2, S2, c, v, rows, r, by rw [ep2]; rfl, M2, by omega, hv, by omega, hrow, rok r (List.mem_of_getElem? hrow), ?_⟩
        cases eo : opM { S2 with pl := S2.pl + 1 } r with
        | bad => rw [eo] at hr3; cases hr3
        | ok S' =>
          rw [eo] at hr3
          intro H' A' M' ep'
          exact ⟨m, Nat.lt_succ_self m, A', S', c + 1, M', ep'.trans ep2, by omega, hr3⟩
        | stop ms d =>
          rw [eo] at hr3
          cases hr3
          intro dx2 v2 H3 A3 S3 c3 M3 ep3 emv hdx2 hv2
          refine ⟨⟨C, rfl, hm⟩, fun e he => ?_⟩
          have s3 := same_upd he (ExcC e (.ref C) (some dx2))
          have M4 := M3.same' s3
          have run4 := M4.run
          rw [ep3, ep2] at run4
          refine ⟨_, rfl, _, _, _, _, _, rfl, run4, T.clM, T.nTrack, rfl, _, _, _, _, _, rfl, M4.tr, T.clT, T.nMoves, rfl, _, rfl, e, dx2, _, v2, rfl, upd_same, (Ne.symm (ne_of_none hdx2 he)), s3 _ _ hdx2, rfl, le2, fun t ht => ?_⟩
          have s5 := same_upd ht (.tup [.ref A3.mv, v2])
          obtain ⟨ts, m1, m2⟩ := M4.mv
          rw [emv] at m2
          exact q t _ (M4.same.trans s5) ⟨A3.mv, v2, ts, upd_same, s5 _ _ m1, m2.same s5, (hv2.same s3).same s5, M4.ap.nmv, M4.same.free ht⟩
end
end Car

set_option maxHeartbeats 1000000
namespace Car
open PySem L2
/-! ### steps -/
noncomputable def At (rows : List Rw) (p : Nat) (seg : List Rw) : Prop := ∀ j r, seg[j]? = some r → rows[p + j]? = some r
section
variable {rows : List Rw} {n p : Nat} {hp : List Int} {fr : List Nm} {rt : List Int} {mv : List (List V)} {st : Nm} {cnt : Nat} {S' : MS} {r : Rw}
theorem stp (h : rows[p]? = some r) (ho : opM ⟨((p + 1 : Nat) : Int), hp, fr, rt, mv, st, cnt⟩ r = .ok S') : runC rows (n + 1) ⟨(p : Int), hp, fr, rt, mv, st, cnt⟩ = runC rows n S' := by
  rw [runC, if_neg (by show ¬ (p : Int) < 0; omega), show rows[(⟨(p : Int), hp, fr, rt, mv, st, cnt⟩ : MS).pl.toNat]? = some r from h]
  show (match opM ⟨(p : Int) + 1, hp, fr, rt, mv, st, cnt⟩ r with | .ok S' => runC rows n S' | .stop ms d => some (ms, d) | .bad => none) = _
  rw [show (p : Int) + 1 = ((p + 1 : Nat) : Int) by omega, ho]
theorem stpE {ms : List (List V)} {d : PyData} (h : rows[p]? = some r) (ho : opM ⟨((p + 1 : Nat) : Int), hp, fr, rt, mv, st, cnt⟩ r = .stop ms d) : runC rows (n + 1) ⟨(p : Int), hp, fr, rt, mv, st, cnt⟩ = some (ms, d) := by
  rw [runC, if_neg (by show ¬ (p : Int) < 0; omega), show rows[(⟨(p : Int), hp, fr, rt, mv, st, cnt⟩ : MS).pl.toNat]? = some r from h]
  show (match opM ⟨(p : Int) + 1, hp, fr, rt, mv, st, cnt⟩ r with | .ok S' => runC rows n S' | .stop ms d => some (ms, d) | .bad => none) = _
  rw [show (p : Int) + 1 = ((p + 1 : Nat) : Int) by omega, ho]
end
section
variable {pl i : Int} {hp : List Int} {f : Nm} {g fr : List Nm} {rt : List Int} {mv : List (List V)} {st : Nm} {cnt : Nat} {x : Str}
theorem load_ok (h : look f x = some i) : opM ⟨pl, hp, f :: g, rt, mv, st, cnt⟩ (.load x) = .ok ⟨pl, i :: hp, f :: g, rt, mv, st, cnt⟩ := by
  simp [opM, h]
theorem store_ok : opM ⟨pl, i :: hp, f :: g, rt, mv, st, cnt⟩ (.store x) = .ok ⟨pl, hp, put f x i :: g, rt, mv, st, cnt⟩ := rfl
theorem count_ok (h : cnt < 2000) : opM ⟨pl, hp, fr, rt, mv, st, cnt⟩ .count = .ok ⟨pl, hp, fr, rt, mv, st, cnt + 1⟩ := by
  rw [opM, if_neg (by show ¬ cnt = 2000; omega)]
theorem count_no (h : cnt = 2000) : opM ⟨pl, hp, fr, rt, mv, st, cnt⟩ .count = .stop mv dLong := by
  rw [opM, if_pos (by show cnt = 2000; omega)]
theorem hold_ok : opM ⟨pl, i :: hp, fr, rt, mv, st, cnt⟩ .hold = .ok ⟨pl, hp, fr, rt, mv ++ [[.str "hold", .int i]], st, cnt⟩ := rfl
theorem push_ok : opM ⟨pl, hp, fr, rt, mv, st, cnt⟩ (.push i) = .ok ⟨pl, i :: hp, fr, rt, mv, st, cnt⟩ := rfl
theorem back_ok {p : Int} : opM ⟨pl, hp, f :: g, p :: rt, mv, st, cnt⟩ .back = .ok ⟨p, hp, g, rt, mv, st, cnt⟩ := rfl
theorem jump_ok {k : Int} : opM ⟨pl, hp, fr, rt, mv, st, cnt⟩ (.jump k) = .ok ⟨k, hp, fr, rt, mv, st, cnt⟩ := rfl
theorem unless_yes {k : Int} (h : i = 0) : opM ⟨pl, i :: hp, fr, rt, mv, st, cnt⟩ (.unless k) = .ok ⟨k, hp, fr, rt, mv, st, cnt⟩ := by
  subst h
  rfl
theorem unless_no {k : Int} (h : i ≠ 0) : opM ⟨pl, i :: hp, fr, rt, mv, st, cnt⟩ (.unless k) = .ok ⟨pl, hp, fr, rt, mv, st, cnt⟩ := by
  rw [opM_unless rfl, if_neg h]
theorem stop_okk : opM ⟨pl, hp, fr, rt, mv, st, cnt⟩ .stop = .stop mv dDone := rfl
theorem comp_ok {a b : Int} {s : Str} : opM ⟨pl, b :: a :: hp, fr, rt, mv, st, cnt⟩ (.comp s) = .ok ⟨pl, cmpI s a b :: hp, fr, rt, mv, st, cnt⟩ := rfl
theorem join_ok {a b : Int} {s : Str} (h : -1000000 ≤ jn (sgn s) a b ∧ jn (sgn s) a b ≤ 1000000) : opM ⟨pl, b :: a :: hp, fr, rt, mv, st, cnt⟩ (.join s) = .ok ⟨pl, jn (sgn s) a b :: hp, fr, rt, mv, st, cnt⟩ := by
  have b : bnd (jn (sgn s) a b) = .ok (jn (sgn s) a b) := by
    unfold bnd
    rw [if_pos h]
  simp only [opM]
  rw [b]
theorem call2_ok {k a b : Int} {x y : Str} : opM ⟨pl, b :: a :: hp, fr, rt, mv, st, cnt⟩ (.call k [x, y]) = .ok ⟨k, hp, put (put [] x a) y b :: fr, pl :: rt, mv, st, cnt⟩ := by
  rw [opM, if_pos (by show 2 ≤ hp.length + 1 + 1; omega)]
  rfl
theorem call0_ok {k : Int} : opM ⟨pl, hp, fr, rt, mv, st, cnt⟩ (.call k []) = .ok ⟨k, hp, [] :: fr, pl :: rt, mv, st, cnt⟩ := by
  rw [opM, if_pos (show ([] : List Str).length ≤ hp.length from Nat.zero_le _)]
  rfl
end
noncomputable abbrev hd (i : Int) : List V := [.str "hold", .int i]
theorem jn_sub (a b : Int) : jn (sgn "sub") a b = a - b := rfl
theorem jn_add (a b : Int) : jn (sgn "add") a b = a + b := rfl
theorem jn_mul (a b : Int) : jn (sgn "mul") a b = a * b := rfl
/-! ### a loop -/
noncomputable def lpRows (top : Nat) (v : Int) : List Rw := [.load "i", .unless ((top + 10 : Nat) : Int), .count, .push v, .hold, .load "i", .push 1, .join "sub", .store "i", .jump (top : Int)]
section
variable {rows : List Rw} {top : Nat} {v : Int} {st : Nm} {g : List Nm}
theorem look_i (F : Nm) (j : Int) : look (put F "i" j) "i" = some j := by rw [look_put, if_pos rfl]
theorem look_ni (F : Nm) (j : Int) : look (put F "i" j) "n" = look F "n" := by rw [look_put, if_neg (by decide +kernel)]
theorem turn18 (A : At rows top (lpRows top v)) {j n cnt : Nat} {F : Nm} {mv : List (List V)} (hj : j ≤ 10000) (h : look F "i" = some ((j + 1 : Nat) : Int)) (hc : cnt < 2000) :
    runC rows (n + 10) ⟨(top : Int), [], F :: g, [], mv, st, cnt⟩ = runC rows n ⟨(top : Int), [], put F "i" (j : Int) :: g, [], mv ++ [hd v], st, cnt + 1⟩ := by
  refine (stp (A 0 _ rfl) (load_ok h)).trans ?_
  refine (stp (A 1 _ rfl) (unless_no (by omega))).trans ?_
  refine (stp (A 2 _ rfl) (count_ok hc)).trans ?_
  refine (stp (A 3 _ rfl) push_ok).trans ?_
  refine (stp (A 4 _ rfl) hold_ok).trans ?_
  refine (stp (A 5 _ rfl) (load_ok h)).trans ?_
  refine (stp (A 6 _ rfl) push_ok).trans ?_
  refine (stp (A 7 _ rfl) (join_ok (by rw [jn_sub]; omega))).trans ?_
  rw [jn_sub, show ((j + 1 : Nat) : Int) - 1 = (j : Int) by omega]
  refine (stp (A 8 _ rfl) store_ok).trans ?_
  exact stp (A 9 _ rfl) jump_ok
theorem loop18 (A : At rows top (lpRows top v)) : ∀ (j : Nat) (F : Nm) (mv : List (List V)) (cnt : Nat), j ≤ 10000 → look F "i" = some (j : Int) → cnt + j ≤ 2000 →
    ∃ F', look F' "n" = look F "n" ∧ ∀ n, runC rows (n + (10 * j + 2)) ⟨(top : Int), [], F :: g, [], mv, st, cnt⟩ = runC rows n ⟨((top + 10 : Nat) : Int), [], F' :: g, [], mv ++ List.replicate j (hd v), st, cnt + j⟩
  | 0, F, mv, cnt, _, h, hc => ⟨F, rfl, fun n => by
    refine (stp (n := n + 1) (A 0 _ rfl) (load_ok h)).trans ?_
    refine (stp (A 1 _ rfl) (unless_yes rfl)).trans ?_
    simp⟩
  | j + 1, F, mv, cnt, hj, h, hc => by
    obtain ⟨F', e, q⟩ := loop18 A j (put F "i" (j : Int)) (mv ++ [hd v]) (cnt + 1) (by omega) (look_i F j) (by omega)
    refine ⟨F', e.trans (look_ni F j), fun n => ?_⟩
    rw [show n + (10 * (j + 1) + 2) = (n + (10 * j + 2)) + 10 by omega]
    refine (turn18 A (by omega) h (by omega)).trans ((q n).trans ?_)
    rw [show cnt + 1 + j = cnt + (j + 1) by omega, List.append_assoc]
    rfl
theorem long18 (A : At rows top (lpRows top v)) : ∀ (j : Nat) (F : Nm) (mv : List (List V)) (cnt : Nat), j ≤ 10000 → look F "i" = some (j : Int) → cnt ≤ 2000 → 2000 < cnt + j →
    ∀ n, runC rows (n + (10 * (2000 - cnt) + 3)) ⟨(top : Int), [], F :: g, [], mv, st, cnt⟩ = some (mv ++ List.replicate (2000 - cnt) (hd v), dLong)
  | 0, F, mv, cnt, _, h, h1, h2, n => by omega
  | j + 1, F, mv, cnt, hj, h, h1, h2, n => by
    by_cases hc : cnt = 2000
    · subst hc
      refine (stp (n := n + 2) (A 0 _ rfl) (load_ok h)).trans ?_
      refine (stp (A 1 _ rfl) (unless_no (by omega))).trans ?_
      refine (stpE (A 2 _ rfl) (count_no rfl)).trans ?_
      simp
    · rw [show n + (10 * (2000 - cnt) + 3) = (n + (10 * (2000 - (cnt + 1)) + 3)) + 10 by omega]
      refine (turn18 A (by omega) h (by omega)).trans ((long18 A j (put F "i" (j : Int)) (mv ++ [hd v]) (cnt + 1) (by omega) (look_i F j) (by omega) (by omega) n).trans ?_)
      rw [show 2000 - cnt = (2000 - (cnt + 1)) + 1 by omega, List.append_assoc]
      rfl
end
/-! ### parts -/
theorem At.l {rows xs ys : List Rw} {p : Nat} (A : At rows p (xs ++ ys)) : At rows p xs := fun j r h => A j r (by
  rw [List.getElem?_append_left (List.getElem?_eq_some_iff.mp h).1]
  exact h)
theorem At.r {rows xs ys : List Rw} {p : Nat} (A : At rows p (xs ++ ys)) : At rows (p + xs.length) ys := fun j r h => by
  rw [Nat.add_assoc]
  exact A (xs.length + j) r (by rw [List.getElem?_append_right (by omega), Nat.add_sub_cancel_left]; exact h)
inductive Pt where
  | loop (many : Nat) (v : Int)
  | choice (w : Str) (a b : Int)
  | c0 (a b : Int)
  | c1 (a b : Int)
  | c2 (a b : Int)
noncomputable def Pt.ok : Pt → Prop
  | .loop m v => m ≤ 5 ∧ -4 ≤ v ∧ v ≤ 4
  | .choice w a b => (w = "less" ∨ w = "same") ∧ -4 ≤ a ∧ a ≤ 4 ∧ -4 ≤ b ∧ b ≤ 4
  | .c0 a b => -4 ≤ a ∧ a ≤ 4 ∧ -4 ≤ b ∧ b ≤ 4
  | .c1 a b => -4 ≤ a ∧ a ≤ 4 ∧ -4 ≤ b ∧ b ≤ 4
  | .c2 a b => -4 ≤ a ∧ a ≤ 4 ∧ -4 ≤ b ∧ b ≤ 4
noncomputable def sub18 : List Rw := [.load "n", .load "m", .join "sub", .hold, .push 99, .store "n", .back, .load "n", .load "m", .join "mul", .back, .join "sub", .back]
noncomputable def Pt.bd (B q : Nat) : Pt → List Rw
  | .loop m v => [.push (m : Int), .store "i"] ++ lpRows (q + 2) v
  | .choice w a b => [.push a, .push b, .comp w, .unless ((q + 7 : Nat) : Int), .push 7, .hold, .jump ((q + 9 : Nat) : Int), .push 8, .hold]
  | .c0 a b => [.push a, .push b, .call (B : Int) ["n", "m"]]
  | .c1 a b => [.push (30 + b), .push a, .push b, .call ((B + 7 : Nat) : Int) ["m", "n"], .join "add", .hold]
  | .c2 a b => [.push 3, .push a, .push b, .call ((B + 11 : Nat) : Int) [], .hold, .hold]
noncomputable def Pt.mvs : Pt → List (List V)
  | .loop m v => List.replicate m (hd v)
  | .choice w a b => [hd (if cmpI w a b = 0 then 8 else 7)]
  | .c0 a b => [hd (a - b)]
  | .c1 a b => [hd (30 + b + a * b)]
  | .c2 a b => [hd (a - b), hd 3]
noncomputable def Pt.cn : Pt → Nat
  | .loop m _ => m
  | _ => 0
section
variable {rows : List Rw} {B : Nat} {st : Nm}
theorem mul_in {a b : Int} (h : -4 ≤ a ∧ a ≤ 4 ∧ -4 ≤ b ∧ b ≤ 4) : -16 ≤ b * a ∧ b * a ≤ 16 := by
  have ha : a.natAbs ≤ 4 := by omega
  have hb : b.natAbs ≤ 4 := by omega
  have hm := Nat.mul_le_mul hb ha
  rw [← Int.natAbs_mul] at hm
  generalize b * a = x at hm
  clear ha hb h
  omega
theorem look2a (x y : Str) (a b : Int) (h : x ≠ y) : look (put (put [] x a) y b) x = some a := by rw [look_put, if_neg h, look_put, if_pos rfl]
theorem look2b (x y : Str) (a b : Int) : look (put (put [] x a) y b) y = some b := by rw [look_put, if_pos rfl]
theorem body18 (S : At rows B sub18) (pt : Pt) (ok : pt.ok) {q : Nat} (A : At rows q (pt.bd B q)) {F : Nm} {mv : List (List V)} {cnt : Nat} (hc : cnt + pt.cn ≤ 2000) :
    ∃ F' N, N ≤ 90 ∧ look F' "n" = look F "n" ∧ ∀ n, runC rows (n + N) ⟨(q : Int), [], [F], [], mv, st, cnt⟩ = runC rows n ⟨((q + (pt.bd B q).length : Nat) : Int), [], [F'], [], mv ++ pt.mvs, st, cnt + pt.cn⟩ := by
  have nm : ("n" : Str) ≠ "m" := by decide +kernel
  have mn : ("m" : Str) ≠ "n" := by decide +kernel
  cases pt with
  | loop m v =>
    have hm : m ≤ 5 := ok.1
    obtain ⟨F', e, h⟩ := loop18 (rows := rows) (top := q + 2) (v := v) (st := st) (g := []) A.r m (put F "i" (m : Int)) mv cnt (by omega) (look_i F m) hc
    refine ⟨F', (10 * m + 2) + 2, by omega, e.trans (look_ni F m), fun n => ?_⟩
    refine (stp (n := n + (10 * m + 2) + 1) (A 0 _ rfl) push_ok).trans ?_
    refine (stp (A 1 _ rfl) store_ok).trans ?_
    exact h n
  | choice w a b =>
    by_cases h : cmpI w a b = 0
    · refine ⟨F, 6, by decide, rfl, fun n => ?_⟩
      refine (stp (n := n + 5) (A 0 _ rfl) push_ok).trans ?_
      refine (stp (A 1 _ rfl) push_ok).trans ?_
      refine (stp (A 2 _ rfl) comp_ok).trans ?_
      refine (stp (A 3 _ rfl) (unless_yes h)).trans ?_
      refine (stp (A 7 _ rfl) push_ok).trans ?_
      refine (stp (A 8 _ rfl) hold_ok).trans ?_
      simp only [Pt.mvs]
      rw [if_pos h]
      rfl
    · refine ⟨F, 7, by decide, rfl, fun n => ?_⟩
      refine (stp (n := n + 6) (A 0 _ rfl) push_ok).trans ?_
      refine (stp (A 1 _ rfl) push_ok).trans ?_
      refine (stp (A 2 _ rfl) comp_ok).trans ?_
      refine (stp (A 3 _ rfl) (unless_no h)).trans ?_
      refine (stp (A 4 _ rfl) push_ok).trans ?_
      refine (stp (A 5 _ rfl) hold_ok).trans ?_
      refine (stp (A 6 _ rfl) jump_ok).trans ?_
      simp only [Pt.mvs]
      rw [if_neg h]
      rfl
  | c0 a b =>
    have hk : -4 ≤ a ∧ a ≤ 4 ∧ -4 ≤ b ∧ b ≤ 4 := ok
    refine ⟨F, 10, by decide, rfl, fun n => ?_⟩
    refine (stp (n := n + 9) (A 0 _ rfl) push_ok).trans ?_
    refine (stp (A 1 _ rfl) push_ok).trans ?_
    refine (stp (A 2 _ rfl) call2_ok).trans ?_
    refine (stp (S 0 _ rfl) (load_ok (look2a "n" "m" a b nm))).trans ?_
    refine (stp (S 1 _ rfl) (load_ok (look2b "n" "m" a b))).trans ?_
    refine (stp (S 2 _ rfl) (join_ok (by rw [jn_sub]; omega))).trans ?_
    refine (stp (S 3 _ rfl) hold_ok).trans ?_
    refine (stp (S 4 _ rfl) push_ok).trans ?_
    refine (stp (S 5 _ rfl) store_ok).trans ?_
    exact stp (S 6 _ rfl) back_ok
  | c1 a b =>
    have hk : -4 ≤ a ∧ a ≤ 4 ∧ -4 ≤ b ∧ b ≤ 4 := ok
    have hm := mul_in hk
    refine ⟨F, 10, by decide, rfl, fun n => ?_⟩
    refine (stp (n := n + 9) (A 0 _ rfl) push_ok).trans ?_
    refine (stp (A 1 _ rfl) push_ok).trans ?_
    refine (stp (A 2 _ rfl) push_ok).trans ?_
    refine (stp (A 3 _ rfl) call2_ok).trans ?_
    refine (stp (S 7 _ rfl) (load_ok (look2b "m" "n" a b))).trans ?_
    refine (stp (S 8 _ rfl) (load_ok (look2a "m" "n" a b mn))).trans ?_
    refine (stp (S 9 _ rfl) (join_ok (by rw [jn_mul]; omega))).trans ?_
    rw [jn_mul]
    refine (stp (S 10 _ rfl) back_ok).trans ?_
    refine (stp (A 4 _ rfl) (join_ok (by rw [jn_add]; omega))).trans ?_
    rw [jn_add, Int.mul_comm b a]
    exact stp (A 5 _ rfl) hold_ok
  | c2 a b =>
    have hk : -4 ≤ a ∧ a ≤ 4 ∧ -4 ≤ b ∧ b ≤ 4 := ok
    refine ⟨F, 8, by decide, rfl, fun n => ?_⟩
    refine (stp (n := n + 7) (A 0 _ rfl) push_ok).trans ?_
    refine (stp (A 1 _ rfl) push_ok).trans ?_
    refine (stp (A 2 _ rfl) push_ok).trans ?_
    refine (stp (A 3 _ rfl) call0_ok).trans ?_
    refine (stp (S 11 _ rfl) (join_ok (by rw [jn_sub]; omega))).trans ?_
    refine (stp (S 12 _ rfl) back_ok).trans ?_
    refine (stp (A 4 _ rfl) hold_ok).trans ?_
    refine (stp (A 5 _ rfl) hold_ok).trans ?_
    rw [List.append_assoc]
    rfl
noncomputable def Pt.all (B p : Nat) (k : Int) (pt : Pt) : List Rw := [.push k, .store "n"] ++ (pt.bd B (p + 2) ++ [.load "n", .hold])
theorem bd_len (B B' q q' : Nat) (pt : Pt) : (pt.bd B q).length = (pt.bd B' q').length := by cases pt <;> rfl
theorem part18 (S : At rows B sub18) (pt : Pt) (ok : pt.ok) (k : Int) {p : Nat} (A : At rows p (pt.all B p k)) {F : Nm} {mv : List (List V)} {cnt : Nat} (hc : cnt + pt.cn ≤ 2000) :
    ∃ F' N, N ≤ 100 ∧ ∀ n, runC rows (n + N) ⟨(p : Int), [], [F], [], mv, st, cnt⟩ = runC rows n ⟨((p + (pt.all B p k).length : Nat) : Int), [], [F'], [], mv ++ (pt.mvs ++ [hd k]), st, cnt + pt.cn⟩ := by
  have A1 : At rows (p + 2) (pt.bd B (p + 2)) := A.r.l
  have A2 : At rows (p + 2 + (pt.bd B (p + 2)).length) [.load "n", .hold] := A.r.r
  obtain ⟨F', N, hN, e, h⟩ := body18 (st := st) S pt ok A1 (F := put F "n" k) (mv := mv) (cnt := cnt) hc
  have e' : look F' "n" = some k := e.trans (by rw [look_put, if_pos rfl])
  refine ⟨F', 2 + (N + 2), by omega, fun n => ?_⟩
  rw [show n + (2 + (N + 2)) = (n + 2 + N) + 1 + 1 by omega]
  refine (stp (A 0 _ rfl) push_ok).trans ?_
  refine (stp (A 1 _ rfl) store_ok).trans ?_
  refine (h (n + 2)).trans ?_
  refine (stp (A2 0 _ rfl) (load_ok e')).trans ?_
  refine (stp (A2 1 _ rfl) hold_ok).trans ?_
  have el : p + (pt.all B p k).length = p + 2 + (pt.bd B (p + 2)).length + 1 + 1 := by
    rw [Pt.all, List.length_append, List.length_append]
    show p + (2 + ((pt.bd B (p + 2)).length + 2)) = _
    omega
  rw [el, List.append_assoc]
/-- parts, one behind another, each with its number -/
noncomputable def allP (B : Nat) : Nat → Int → List Pt → List Rw
  | _, _, [] => []
  | p, k, t :: ts => t.all B p k ++ allP B (p + (t.all B p k).length) (k + 1) ts
noncomputable def mvsP : Int → List Pt → List (List V)
  | _, [] => []
  | k, t :: ts => (t.mvs ++ [hd k]) ++ mvsP (k + 1) ts
noncomputable def cnP : List Pt → Nat
  | [] => 0
  | t :: ts => t.cn + cnP ts
theorem parts18 (S : At rows B sub18) : ∀ (ts : List Pt) (k : Int) (p : Nat) (F : Nm) (mv : List (List V)) (cnt : Nat), (∀ t ∈ ts, t.ok) → At rows p (allP B p k ts) → cnt + cnP ts ≤ 2000 →
    ∃ F' N, N ≤ 100 * ts.length ∧ ∀ n, runC rows (n + N) ⟨(p : Int), [], [F], [], mv, st, cnt⟩ = runC rows n ⟨((p + (allP B p k ts).length : Nat) : Int), [], [F'], [], mv ++ mvsP k ts, st, cnt + cnP ts⟩
  | [], k, p, F, mv, cnt, _, _, _ => ⟨F, 0, Nat.zero_le _, fun n => by simp [mvsP, cnP, allP]⟩
  | t :: ts, k, p, F, mv, cnt, ok, A, hc => by
    rw [cnP] at hc
    obtain ⟨F1, N1, h1, q1⟩ := part18 (st := st) S t (ok t List.mem_cons_self) k A.l (F := F) (mv := mv) (cnt := cnt) (by omega)
    obtain ⟨F2, N2, h2, q2⟩ := parts18 S ts (k + 1) (p + (t.all B p k).length) F1 (mv ++ (t.mvs ++ [hd k])) (cnt + t.cn) (fun x hx => ok x (List.mem_cons_of_mem _ hx)) A.r (by omega)
    refine ⟨F2, N2 + N1, by rw [List.length_cons]; omega, fun n => ?_⟩
    rw [← Nat.add_assoc]
    refine (q1 (n + N2)).trans ((q2 n).trans ?_)
    rw [allP, mvsP, cnP, List.length_append, List.append_assoc, Nat.add_assoc, Nat.add_assoc]
end
end Car

set_option maxHeartbeats 1000000
namespace Car
open PySem L2
noncomputable def lst18 (q : Nat) : Option Nat → List Rw
  | none => []
  | some m => [.push (m : Int), .store "i"] ++ lpRows (q + 2) 5
noncomputable def code18 (B : Nat) (ts : List Pt) (om : Option Nat) : List Rw := [.jump 1] ++ (allP B 1 0 ts ++ (lst18 (1 + (allP B 1 0 ts).length) om ++ ([.stop] ++ sub18)))
theorem all_len (B B' p p' : Nat) (k k' : Int) (t : Pt) : (t.all B p k).length = (t.all B' p' k').length := by
  rw [Pt.all, Pt.all, List.length_append, List.length_append, List.length_append, List.length_append, bd_len B B' (p + 2) (p' + 2)]
  rfl
theorem allP_len (B B' : Nat) : ∀ (ts : List Pt) (p p' : Nat) (k k' : Int), (allP B p k ts).length = (allP B' p' k' ts).length
  | [], _, _, _, _ => rfl
  | t :: ts, p, p', k, k' => by rw [allP, allP, List.length_append, List.length_append, all_len B B' p p' k k', allP_len B B' ts]
theorem lst_len (q q' : Nat) (om : Option Nat) : (lst18 q om).length = (lst18 q' om).length := by cases om <;> rfl
/-- where the subs stand -/
noncomputable def B18 (ts : List Pt) (om : Option Nat) : Nat := 1 + (allP 0 1 0 ts).length + (lst18 0 om).length + 1
noncomputable def due18 (ts : List Pt) : Option Nat → List (List V) × PyData
  | none => (mvsP 0 ts, dDone)
  | some m => (mvsP 0 ts ++ List.replicate (min m (2000 - cnP ts)) (hd 5), if 2000 < cnP ts + m then dLong else dDone)
theorem cnP_le : ∀ (ts : List Pt), (∀ t ∈ ts, t.ok) → cnP ts ≤ 5 * ts.length
  | [], _ => Nat.le_refl _
  | t :: ts, h => by
    have h1 := cnP_le ts fun x hx => h x (List.mem_cons_of_mem _ hx)
    have h2 : t.cn ≤ 5 := by
      have := h t List.mem_cons_self
      cases t with
      | loop m v => exact this.1
      | _ => exact Nat.zero_le _
    rw [cnP, List.length_cons]
    omega
theorem n_f0 {N : Nat} (h : N ≤ 2400) : 0 + 1 + N + 1 ≤ 30000 := by omega
theorem n_f1 {N c : Nat} (h : N ≤ 2400) : 0 + (10 * (2000 - c) + 3) + 1 + 1 + N + 1 ≤ 30000 := by omega
theorem n_f2 {N m : Nat} (h : N ≤ 2400) (g : m ≤ 2010) : 0 + 1 + (10 * m + 2) + 1 + 1 + N + 1 ≤ 30000 := by omega
theorem n_c0 {c n : Nat} (h : c ≤ 5 * n) (g : n ≤ 24) : c ≤ 2000 := by omega
theorem n_N {a n : Nat} (h : a ≤ 100 * n) (g : n ≤ 24) : a ≤ 2400 := by omega
theorem n_m0 {m : Nat} (h : m ≤ 2010) : m ≤ 10000 := by omega
theorem n_le {c m : Nat} (h : ¬ 2000 < c + m) (g : c ≤ 2000) : c + m ≤ 2000 ∧ m ≤ 2000 - c := by omega
theorem n_ge {c m : Nat} (h : 2000 < c + m) : 2000 - c ≤ m := by omega
theorem run18 (ts : List Pt) (om : Option Nat) (ok : ∀ t ∈ ts, t.ok) (hl : ts.length ≤ 24) (hm : ∀ m, om = some m → m ≤ 2010) : ∃ n, n ≤ 30000 ∧ runC (code18 (B18 ts om) ts om) n S0 = some (due18 ts om) := by
  generalize hB : B18 ts om = B
  have cl := n_c0 (cnP_le ts ok) hl
  generalize hrows : code18 B ts om = rows
  have A0 : At rows 0 (code18 B ts om) := fun j r h => by rw [← hrows, Nat.zero_add]; exact h
  have A1 : At rows 1 (allP B 1 0 ts ++ (lst18 (1 + (allP B 1 0 ts).length) om ++ ([.stop] ++ sub18))) := A0.r
  have A2 := A1.r
  have A3 := A2.r
  have S : At rows B sub18 := by
    have := A3.r
    have e : 1 + (allP B 1 0 ts).length + (lst18 (1 + (allP B 1 0 ts).length) om).length + [Rw.stop].length = B := by
      rw [allP_len B 0 ts 1 1 0 0, lst_len _ 0]
      exact hB
    rw [e] at this
    exact this
  obtain ⟨F', N, hN, h⟩ := parts18 (st := begN) S ts 0 1 [] [] 0 ok A1.l (by rw [Nat.zero_add]; exact cl)
  have hN' := n_N hN hl
  generalize 1 + (allP B 1 0 ts).length = q at A2 A3 h
  rw [Nat.zero_add] at h
  cases om with
  | none =>
    refine ⟨0 + 1 + N + 1, n_f0 hN', (stp (p := 0) (A0 0 _ rfl) jump_ok).trans ((h (0 + 1)).trans ?_)⟩
    exact stpE (A3 0 _ rfl) stop_okk
  | some m =>
    have hm' := hm m rfl
    have A4 : At rows q (lst18 q (some m)) := A2.l
    have A5 : At rows (q + 2) (lpRows (q + 2) 5) := At.r (xs := [.push (m : Int), .store "i"]) A4
    by_cases hc : 2000 < cnP ts + m
    · refine ⟨0 + (10 * (2000 - cnP ts) + 3) + 1 + 1 + N + 1, n_f1 hN', (stp (p := 0) (A0 0 _ rfl) jump_ok).trans ((h (0 + (10 * (2000 - cnP ts) + 3) + 1 + 1)).trans ?_)⟩
      refine (stp (A4 0 _ rfl) push_ok).trans ((stp (A4 1 _ rfl) store_ok).trans ?_)
      refine (long18 (st := begN) (g := []) A5 m (put F' "i" (m : Int)) ([] ++ mvsP 0 ts) (cnP ts) (n_m0 hm') (look_i F' m) cl hc 0).trans ?_
      rw [due18, if_pos hc, Nat.min_eq_right (n_ge hc)]
      rfl
    · obtain ⟨n1, n2⟩ := n_le hc cl
      obtain ⟨F2, _, h2⟩ := loop18 (st := begN) (g := []) A5 m (put F' "i" (m : Int)) ([] ++ mvsP 0 ts) (cnP ts) (n_m0 hm') (look_i F' m) n1
      refine ⟨0 + 1 + (10 * m + 2) + 1 + 1 + N + 1, n_f2 hN' hm', (stp (p := 0) (A0 0 _ rfl) jump_ok).trans ((h (0 + 1 + (10 * m + 2) + 1 + 1)).trans ?_)⟩
      refine (stp (A4 0 _ rfl) push_ok).trans ((stp (A4 1 _ rfl) store_ok).trans ((h2 (0 + 1)).trans ?_))
      refine (stpE (p := q + 12) (A3 0 _ rfl) stop_okk).trans ?_
      rw [due18, if_neg hc, Nat.min_eq_left n2]
      rfl
end Car

set_option maxHeartbeats 1000000
namespace Car
open PySem L2
noncomputable abbrev sTk : Stmt := top 34
noncomputable abbrev sLoop : Stmt := top 35
noncomputable abbrev sChoice : Stmt := top 36
noncomputable abbrev sPart : Stmt := top 37
noncomputable abbrev sCode : Stmt := top 38
noncomputable abbrev sLaw : Stmt := top 39
section
variable {P : Program} {w : World} {K : PySem.W.Frag} {mg : Str → Option Value} {base : Heap} {f : Addr} {fd' : FuncData}
/-! ### _law_take -/
noncomputable def spTk : Sp := fun vs H Q _ => ∃ (a : Addr) (c b m : Int), vs = [.ref a, .int m] ∧ H a = some (.lst [.int c, .int b]) ∧ 0 < m ∧ m < 2 ^ 63 ∧ ∀ n c' : Int, 0 ≤ n → n < m → Q (.int n) (upd H a (.lst [.int c', .int b]))
theorem scTk : FnScope ["state", "many", "found"] ["state", "many"] (defScope sTk) := ⟨rfl, rfl, rfl, by decide +kernel, rfl, by decide +kernel, by decide +kernel⟩
theorem ok_tk (F : Fun K "_law_take" "_law_take" sTk f fd') : FnOk P w K mg base (CX1 P w) 1 f fd' ["state", "many"] spTk := by
  have nd := scTk.nd
  refine F.ok1 scTk (fun vs H Q E h => ?_) (fun cdv A outer s H vs Q E hr h => ?_)
  · obtain ⟨a, c, b, m, rfl, _⟩ := h
    rfl
  obtain ⟨a, c, b, m, rfl, ha, m0, m1, q⟩ := h
  refine ⟨_, (pss_cons (ps_if (pt_cmpR op_eq (pe_ix ix_list (pv 0) pe_int (fun _ _ => rfl)) pe_int (nomark _)) (pss_cons (ps_asg (pe_op op_mod (pe_op op_mul (pe_op op_add (pe_ix ix_list (pv 0) pe_int (fun _ _ => rfl)) pe_int) pe_int) pe_int) (pg_sub (pv 0) pe_int set_list))
    (pss_cons (ps_asg (pe_op op_mod (pe_op op_mul (pe_ix ix_list (pv 0) pe_int (fun _ _ => rfl)) (pe_ix ix_list (pv 0) pe_int (fun _ _ => rfl))) pe_int) (pg_sub (pv 0) pe_int set_list))
    (pss_one (ps_ret (pe_op op_mod (pe_op op_fdiv (pe_op op_mod (pe_op op_mul (pe_ix ix_list (pv 0) pe_int (fun _ _ => rfl)) pe_int) pe_int) pe_int) (pv 1)))))) pss_nil)
    (pss_cons (ps_set (i := 2) nd rfl (Or.inl rfl) (pe_op op_mod (pe_ix ix_list (pv 0) pe_int (fun _ _ => rfl)) (pv 1)))
    (pss_cons (ps_asg (pe_op op_fdiv64 (pe_ix ix_list (pv 0) pe_int (fun _ _ => rfl)) (pv 1)) (pg_sub (pv 0) pe_int set_list))
    (pss_one (ps_ret (pv 2)))))), ?_⟩
  refine ⟨_, rfl, a, _, 1, .int b, rfl, rfl, SqL.of ha, rfl, rfl, _, rfl, ?_⟩
  refine ite2 (fun _ => ?_) (fun _ => ?_)
  · refine ⟨_, rfl, a, _, 0, .int c, rfl, rfl, SqL.of ha, rfl, _, _, rfl, rfl, _, _, rfl, rfl, .inr ⟨by decide, by decide⟩, _, _, rfl, rfl, (by show (0 : Int) < 2147483647; decide), ?_⟩
    refine ⟨_, rfl, a, _, 0, 0, rfl, rfl, ha, rfl, ?_⟩
    have b1 := mod_lt ((c + 1) * 48271) (show (0 : Int) < 2147483647 by decide)
    refine ⟨_, rfl, a, _, 0, .int ((c + 1) * 48271 % 2147483647), rfl, rfl, SqL.of upd_same, rfl, _, rfl, a, _, 0, .int ((c + 1) * 48271 % 2147483647), rfl, rfl, SqL.of upd_same, rfl, _, _, rfl, rfl, .inl ⟨by omega, by omega⟩, _, _, rfl, rfl, (by show (0 : Int) < 2147483629; decide), ?_⟩
    refine ⟨_, rfl, a, _, 0, 0, rfl, rfl, upd_same, rfl, ?_⟩
    rw [upd_upd]
    refine ⟨_, rfl, a, _, 0, .int ((c + 1) * 48271 % 2147483647 * ((c + 1) * 48271 % 2147483647) % 2147483629), rfl, rfl, SqL.of upd_same, rfl, _, _, rfl, rfl, .inr ⟨by decide, by decide⟩, _, _, rfl, rfl, (by show (0 : Int) < 2147483587; decide), _, _, rfl, rfl, ⟨by decide, by decide⟩, _, rfl, _, _, rfl, rfl, m0, ?_⟩
    exact q _ _ (mod_lt _ m0).1 (mod_lt _ m0).2
  · refine ⟨_, rfl, a, _, 0, .int c, rfl, rfl, SqL.of ha, rfl, _, rfl, _, _, rfl, rfl, m0, ?_⟩
    refine ⟨_, rfl, a, _, 0, .int c, rfl, rfl, SqL.of ha, rfl, _, rfl, _, _, rfl, rfl, ⟨m0, by omega⟩, ?_⟩
    refine ⟨_, rfl, a, _, 0, 0, rfl, rfl, ha, rfl, ?_⟩
    exact ⟨_, rfl, q _ (c / m) (mod_lt _ m0).1 (mod_lt _ m0).2⟩
end
/-- all but what stands at a stays -/
noncomputable def Sb (a : Addr) (H H' : Hp) : Prop := ∀ x o, x ≠ a → H x = some o → H' x = some o
theorem Sb.trans {a : Addr} {H H1 H2 : Hp} (h : Sb a H H1) (k : Sb a H1 H2) : Sb a H H2 := fun x o n e => k x o n (h x o n e)
theorem Sb.of {a : Addr} {H H' : Hp} (s : Same H H') : Sb a H H' := fun x o _ e => s x o e
theorem sb_upd {a : Addr} {H : Hp} {o : HO} : Sb a H (upd H a o) := fun x u n e => by rw [upd_ne n]; exact e
theorem MvAt.app {H : Hp} : ∀ {ts us : List Addr} {ms ns : List (List V)}, MvAt H ts ms → MvAt H us ns → MvAt H (ts ++ us) (ms ++ ns)
  | [], _, [], _, _, h => h
  | _ :: _, _, _ :: _, _, h, h2 => ⟨h.1, MvAt.app h.2 h2⟩
  | [], _, _ :: _, _, h, _ => h.elim
  | _ :: _, _, [], _, h, _ => h.elim
theorem mv_new {H : Hp} {ts : List Addr} {ms : List (List V)} {t : Addr} {m : List V} (M : MvAt H ts ms) (h : H t = none) : MvAt (upd H t (.tup m)) (ts ++ [t]) (ms ++ [m]) := (M.same (same_upd h _)).snoc upd_same
theorem sbn {a : Addr} {H : Hp} {xs : List V} (h : H a = some (.lst xs)) : ∀ m, H a ≠ some (.tup m) := fun m e => by rw [h] at e; cases e
/-- what stands in the code for a row that is no call -/
noncomputable def cV : Rw → List V
  | .push n => [.str "push", .int n]
  | .load x => [.str "load", .str x]
  | .store x => [.str "store", .str x]
  | .join s => [.str s]
  | .comp s => [.str s]
  | .count => [.str "count"]
  | .deeper => [.str "deeper"]
  | .hold => [.str "hold"]
  | .move m a b => [.str "move", .str m, .str a, .bl b]
  | .stop => [.str "stop"]
  | .jump k => [.str "jump", .int k]
  | .unless k => [.str "unless", .int k]
  | .call _ _ => []
  | .back => [.str "back"]
structure CdA (H : Hp) (cd : Addr) (cs : List Addr) (ms : List (List V)) : Prop where
  hcd : H cd = some (.lst (cs.map V.ref))
  mv : MvAt H cs ms
  le : cs.length ≤ 1000
theorem CdA.same {H H' : Hp} {cd : Addr} {cs : List Addr} {ms : List (List V)} (M : CdA H cd cs ms) (s : Same H H') : CdA H' cd cs ms := ⟨s _ _ M.hcd, M.mv.same s, M.le⟩
theorem CdA.ext {H H' : Hp} {cd : Addr} {cs ts : List Addr} {ms es : List (List V)} (M : CdA H cd cs ms) (s : Same H H') (T : MvAt H' ts es) (hl : cs.length + ts.length ≤ 1000) : CdA (upd H' cd (.lst (cs.map V.ref ++ ts.map V.ref))) cd (cs ++ ts) (ms ++ es) := by
  have M1 := M.same s
  exact ⟨by rw [upd_same, List.map_append], (M1.mv.app T).upd (sbn M1.hcd), by rw [List.length_append]; exact hl⟩
theorem line1000 {n m : Nat} (h : n ≤ 1000) (h2 : m ≤ 1000) : n + m ≤ sizeLine := Nat.le_trans (show n + m ≤ 2000 by omega) (by decide)
theorem le5 : 5 ≤ sizeLine := by decide
section
variable {P : Program} {w : World} {K : PySem.W.Frag} {mg : Str → Option Value} {base : Heap} {f : Addr} {fd' : FuncData}
/-! ### _law_loop -/
noncomputable def spLoop : Sp := fun vs H Q _ => ∃ (cd : Addr) (m : Nat) (v : Int) (cs : List Addr) (ms : List (List V)), vs = [.ref cd, .int (m : Int), .int v] ∧ CdA H cd cs ms ∧ cs.length + 12 ≤ 1000 ∧
  ∀ ts H', Sb cd H H' → ts.length = 12 → CdA H' cd (cs ++ ts) (ms ++ ([Rw.push (m : Int), .store "i"] ++ lpRows (cs.length + 2) v).map cV) → Q .non H'
theorem scLoop : FnScope ["code", "many", "value", "top"] ["code", "many", "value"] (defScope sLoop) := ⟨rfl, rfl, rfl, by decide +kernel, rfl, by decide +kernel, by decide +kernel⟩
theorem ok_loop (T : LawT mg) (F : Fun K "_law_loop" "_law_loop" sLoop f fd') : FnOk P w K mg base (CX1 P w) 1 f fd' ["code", "many", "value"] spLoop := by
  have nd := scLoop.nd
  refine F.ok1 scLoop (fun vs H Q E h => ?_) (fun cdv A outer s H vs Q E hr h => ?_)
  · obtain ⟨cd, m, v, cs, ms, rfl, _⟩ := h
    rfl
  obtain ⟨cd, m, v, cs, ms, rfl, M0, hl, q⟩ := h
  refine ⟨_, (pss_cons (ps_expr (pe_bm PySem.F.plainAttrs_list PySem.F.slot_list_extend PySem.F.type_list_extend mt_extend (pv 0) (pa_cons (pe_lst (pa_cons (pe_tup (pa_cons pe_str (pa_cons (pv 1) pa_nil))) (pa_cons (pe_tup (pa_cons pe_str (pa_cons pe_str pa_nil))) pa_nil))) pa_nil)))
    (pss_cons (ps_set (i := 3) nd rfl (Or.inl rfl) (pe_callB call_len_seq rfl T.len PySem.boot_len (pa_cons (pv 0) pa_nil)))
    (pss_cons (ps_expr (pe_bm PySem.F.plainAttrs_list PySem.F.slot_list_extend PySem.F.type_list_extend mt_extend (pv 0) (pa_cons (pe_lst (pa_cons (pe_tup (pa_cons pe_str (pa_cons pe_str pa_nil))) (pa_cons (pe_tup (pa_cons pe_str (pa_cons (pe_op op_add (pv 3) pe_int) pa_nil))) (pa_cons (pe_tup (pa_cons pe_str pa_nil)) (pa_cons (pe_tup (pa_cons pe_str (pa_cons (pv 2) pa_nil))) (pa_cons (pe_tup (pa_cons pe_str pa_nil)) pa_nil)))))) pa_nil)))
    (pss_one (ps_expr (pe_bm PySem.F.plainAttrs_list PySem.F.slot_list_extend PySem.F.type_list_extend mt_extend (pv 0) (pa_cons (pe_lst (pa_cons (pe_tup (pa_cons pe_str (pa_cons pe_str pa_nil))) (pa_cons (pe_tup (pa_cons pe_str (pa_cons pe_int pa_nil))) (pa_cons (pe_tup (pa_cons pe_str pa_nil)) (pa_cons (pe_tup (pa_cons pe_str (pa_cons pe_str pa_nil))) (pa_cons (pe_tup (pa_cons pe_str (pa_cons (pv 3) pa_nil))) pa_nil)))))) pa_nil))))))), ?_⟩
  refine ⟨_, rfl, .inl ⟨rfl, _, SqL.of M0.hcd⟩, _, rfl, le2, fun t1 h1 => ⟨le2, fun t2 h2 => ⟨le2, fun b hb => ?_⟩⟩⟩
  have T1 : MvAt _ [t1, t2] [[V.str "push", .int (m : Int)], [V.str "store", .str "i"]] := mv_new (mv_new (ts := []) (ms := []) True.intro h1) h2
  have sb := (same_upd h1 (.tup [V.str "push", .int (m : Int)])).trans ((same_upd h2 (.tup [V.str "store", .str "i"])).trans (same_upd hb (.lst [V.ref t1, .ref t2])))
  refine ⟨cd, b, _, _, rfl, rfl, (M0.same sb).hcd, upd_same, line1000 (by rw [List.length_map]; exact M0.le) (by show 2 ≤ 1000; decide), ?_⟩
  have M1 : CdA (upd _ cd (.lst (cs.map V.ref ++ [V.ref t1, V.ref t2]))) cd (cs ++ [t1, t2]) _ := M0.ext sb (T1.same (same_upd hb _)) (by show cs.length + 2 ≤ 1000; omega)
  have w1 : Sb cd H (upd _ cd (.lst (cs.map V.ref ++ [V.ref t1, V.ref t2]))) := (Sb.of sb).trans sb_upd
  generalize upd _ cd (.lst (cs.map V.ref ++ [V.ref t1, V.ref t2])) = H1 at M1 w1
  clear T1 sb
  refine ⟨_, rfl, cd, _, rfl, .inl (SqL.of M1.hcd), ?_⟩
  have e1 : ((cs ++ [t1, t2]).map V.ref).length = cs.length + 2 := by rw [List.length_map, List.length_append]; rfl
  rw [e1]
  refine ⟨_, rfl, .inl ⟨rfl, _, SqL.of M1.hcd⟩, le2, fun t3 h3 => ⟨_, rfl, _, _, rfl, rfl, le2, fun t4 h4 => ⟨le1, fun t5 h5 => ⟨_, rfl, le2, fun t6 h6 => ⟨le1, fun t7 h7 => ⟨le5, fun b2 hb2 => ?_⟩⟩⟩⟩⟩⟩
  have T2 : MvAt _ [t3, t4, t5, t6, t7] [[V.str "load", .str "i"], [V.str "unless", .int (((cs.length + 2 : Nat) : Int) + 10)], [V.str "count"], [V.str "push", .int v], [V.str "hold"]] := mv_new (mv_new (mv_new (mv_new (mv_new (ts := []) (ms := []) True.intro h3) h4) h5) h6) h7
  have sb := (same_upd h3 (.tup [V.str "load", .str "i"])).trans ((same_upd h4 (.tup [V.str "unless", .int (((cs.length + 2 : Nat) : Int) + 10)])).trans ((same_upd h5 (.tup [V.str "count"])).trans ((same_upd h6 (.tup [V.str "push", .int v])).trans ((same_upd h7 (.tup [V.str "hold"])).trans (same_upd hb2 (.lst [V.ref t3, .ref t4, .ref t5, .ref t6, .ref t7]))))))
  refine ⟨cd, b2, _, _, rfl, rfl, (M1.same sb).hcd, upd_same, line1000 (by rw [List.length_map]; exact M1.le) (by show 5 ≤ 1000; decide), ?_⟩
  have M2 : CdA (upd _ cd (.lst ((cs ++ [t1, t2]).map V.ref ++ [V.ref t3, V.ref t4, V.ref t5, V.ref t6, V.ref t7]))) cd ((cs ++ [t1, t2]) ++ [t3, t4, t5, t6, t7]) _ := M1.ext sb (T2.same (same_upd hb2 _)) (by rw [List.length_append]; show cs.length + 2 + 5 ≤ 1000; omega)
  have w2 : Sb cd H (upd _ cd (.lst ((cs ++ [t1, t2]).map V.ref ++ [V.ref t3, V.ref t4, V.ref t5, V.ref t6, V.ref t7]))) := w1.trans ((Sb.of sb).trans sb_upd)
  generalize upd _ cd (.lst ((cs ++ [t1, t2]).map V.ref ++ [V.ref t3, V.ref t4, V.ref t5, V.ref t6, V.ref t7])) = H2 at M2 w2
  clear T2 sb
  refine ⟨_, rfl, .inl ⟨rfl, _, SqL.of M2.hcd⟩, le2, fun t8 h8 => ⟨le2, fun t9 h9 => ⟨le1, fun ta ha => ⟨le2, fun tb htb => ⟨_, rfl, le2, fun tc htc => ⟨le5, fun b3 hb3 => ?_⟩⟩⟩⟩⟩⟩
  have T3 : MvAt _ [t8, t9, ta, tb, tc] [[V.str "load", .str "i"], [V.str "push", .int 1], [V.str "sub"], [V.str "store", .str "i"], [V.str "jump", .int ((cs.length + 2 : Nat) : Int)]] := mv_new (mv_new (mv_new (mv_new (mv_new (ts := []) (ms := []) True.intro h8) h9) ha) htb) htc
  have sb := (same_upd h8 (.tup [V.str "load", .str "i"])).trans ((same_upd h9 (.tup [V.str "push", .int 1])).trans ((same_upd ha (.tup [V.str "sub"])).trans ((same_upd htb (.tup [V.str "store", .str "i"])).trans ((same_upd htc (.tup [V.str "jump", .int ((cs.length + 2 : Nat) : Int)])).trans (same_upd hb3 (.lst [V.ref t8, .ref t9, .ref ta, .ref tb, .ref tc]))))))
  refine ⟨cd, b3, _, _, rfl, rfl, (M2.same sb).hcd, upd_same, line1000 (by rw [List.length_map]; exact M2.le) (by show 5 ≤ 1000; decide), ?_⟩
  have M3 := M2.ext sb (T3.same (same_upd hb3 _)) (by rw [List.length_append, List.length_append]; show cs.length + 2 + 5 + 5 ≤ 1000; omega)
  refine q [t1, t2, t3, t4, t5, t6, t7, t8, t9, ta, tb, tc] _ (w2.trans ((Sb.of sb).trans sb_upd)) rfl ?_
  have e3 : cs ++ [t1, t2] ++ [t3, t4, t5, t6, t7] ++ [t8, t9, ta, tb, tc] = cs ++ [t1, t2, t3, t4, t5, t6, t7, t8, t9, ta, tb, tc] := by rw [List.append_assoc, List.append_assoc]; rfl
  have e4 : ms ++ [[V.str "push", .int (m : Int)], [V.str "store", .str "i"]] ++ [[V.str "load", .str "i"], [V.str "unless", .int (((cs.length + 2 : Nat) : Int) + 10)], [V.str "count"], [V.str "push", .int v], [V.str "hold"]] ++ [[V.str "load", .str "i"], [V.str "push", .int 1], [V.str "sub"], [V.str "store", .str "i"], [V.str "jump", .int ((cs.length + 2 : Nat) : Int)]] = ms ++ ([Rw.push (m : Int), .store "i"] ++ lpRows (cs.length + 2) v).map cV := by
    rw [List.append_assoc, List.append_assoc]
    rfl
  rw [e3, e4] at M3
  exact M3
end
end Car

set_option maxHeartbeats 1000000
namespace Car
open PySem L2
section
variable {P : Program} {w : World} {K : PySem.W.Frag} {mg : Str → Option Value} {base : Heap} {f : Addr} {fd' : FuncData}
/-! ### _law_choice -/
noncomputable def spChoice : Sp := fun vs H Q _ => ∃ (cd : Addr) (wd : Str) (a b : Int) (cs : List Addr) (ms : List (List V)), vs = [.ref cd, .str wd, .int a, .int b] ∧ CdA H cd cs ms ∧ cs.length + 9 ≤ 1000 ∧
  ∀ ts H', Sb cd H H' → ts.length = 9 → CdA H' cd (cs ++ ts) (ms ++ (Pt.bd 0 cs.length (.choice wd a b)).map cV) → Q .non H'
theorem scChoice : FnScope ["code", "word", "first", "second", "top"] ["code", "word", "first", "second"] (defScope sChoice) := ⟨rfl, rfl, rfl, by decide +kernel, rfl, by decide +kernel, by decide +kernel⟩
theorem ok_choice (T : LawT mg) (F : Fun K "_law_choice" "_law_choice" sChoice f fd') : FnOk P w K mg base (CX1 P w) 1 f fd' ["code", "word", "first", "second"] spChoice := by
  have nd := scChoice.nd
  refine F.ok1 scChoice (fun vs H Q E h => ?_) (fun cdv A outer s H vs Q E hr h => ?_)
  · obtain ⟨cd, wd, a, b, cs, ms, rfl, _⟩ := h
    rfl
  obtain ⟨cd, wd, a, b, cs, ms, rfl, M0, hl, q⟩ := h
  refine ⟨_, (pss_cons (ps_expr (pe_bm PySem.F.plainAttrs_list PySem.F.slot_list_extend PySem.F.type_list_extend mt_extend (pv 0) (pa_cons (pe_lst (pa_cons (pe_tup (pa_cons pe_str (pa_cons (pv 2) pa_nil))) (pa_cons (pe_tup (pa_cons pe_str (pa_cons (pv 3) pa_nil))) (pa_cons (pe_tup (pa_cons (pv 1) pa_nil)) pa_nil)))) pa_nil)))
    (pss_cons (ps_set (i := 4) nd rfl (Or.inl rfl) (pe_callB call_len_seq rfl T.len PySem.boot_len (pa_cons (pv 0) pa_nil)))
    (pss_one (ps_expr (pe_bm PySem.F.plainAttrs_list PySem.F.slot_list_extend PySem.F.type_list_extend mt_extend (pv 0) (pa_cons (pe_lst (pa_cons (pe_tup (pa_cons pe_str (pa_cons (pe_op op_add (pv 4) pe_int) pa_nil))) (pa_cons (pe_tup (pa_cons pe_str (pa_cons pe_int pa_nil))) (pa_cons (pe_tup (pa_cons pe_str pa_nil)) (pa_cons (pe_tup (pa_cons pe_str (pa_cons (pe_op op_add (pv 4) pe_int) pa_nil))) (pa_cons (pe_tup (pa_cons pe_str (pa_cons pe_int pa_nil))) (pa_cons (pe_tup (pa_cons pe_str pa_nil)) pa_nil))))))) pa_nil)))))), ?_⟩
  refine ⟨_, rfl, .inl ⟨rfl, _, SqL.of M0.hcd⟩, _, rfl, le2, fun t1 h1 => ⟨_, rfl, le2, fun t2 h2 => ⟨_, rfl, le1, fun t3 h3 => ⟨le3, fun l hb => ?_⟩⟩⟩⟩
  have T1 : MvAt _ [t1, t2, t3] [[V.str "push", .int a], [V.str "push", .int b], [V.str wd]] := mv_new (mv_new (mv_new (ts := []) (ms := []) True.intro h1) h2) h3
  have sb := (same_upd h1 (.tup [V.str "push", .int a])).trans ((same_upd h2 (.tup [V.str "push", .int b])).trans ((same_upd h3 (.tup [V.str wd])).trans (same_upd hb (.lst [V.ref t1, .ref t2, .ref t3]))))
  refine ⟨cd, l, _, _, rfl, rfl, (M0.same sb).hcd, upd_same, line1000 (by rw [List.length_map]; exact M0.le) (by show 3 ≤ 1000; decide), ?_⟩
  have M1 : CdA (upd _ cd (.lst (cs.map V.ref ++ [V.ref t1, V.ref t2, V.ref t3]))) cd (cs ++ [t1, t2, t3]) _ := M0.ext sb (T1.same (same_upd hb _)) (by show cs.length + 3 ≤ 1000; omega)
  have w1 : Sb cd H (upd _ cd (.lst (cs.map V.ref ++ [V.ref t1, V.ref t2, V.ref t3]))) := (Sb.of sb).trans sb_upd
  generalize upd _ cd (.lst (cs.map V.ref ++ [V.ref t1, V.ref t2, V.ref t3])) = H1 at M1 w1
  clear T1 sb
  refine ⟨_, rfl, cd, _, rfl, .inl (SqL.of M1.hcd), ?_⟩
  have e1 : ((cs ++ [t1, t2, t3]).map V.ref).length = cs.length + 3 := by rw [List.length_map, List.length_append]; rfl
  rw [e1]
  refine ⟨_, rfl, .inl ⟨rfl, _, SqL.of M1.hcd⟩, _, rfl, _, _, rfl, rfl, le2, fun t4 h4 => ⟨le2, fun t5 h5 => ⟨le1, fun t6 h6 => ⟨_, rfl, _, _, rfl, rfl, le2, fun t7 h7 => ⟨le2, fun t8 h8 => ⟨le1, fun t9 h9 => ⟨(by show 6 ≤ sizeLine; decide), fun b2 hb2 => ?_⟩⟩⟩⟩⟩⟩⟩
  have T2 : MvAt _ [t4, t5, t6, t7, t8, t9] [[V.str "unless", .int (((cs.length + 3 : Nat) : Int) + 4)], [V.str "push", .int 7], [V.str "hold"], [V.str "jump", .int (((cs.length + 3 : Nat) : Int) + 6)], [V.str "push", .int 8], [V.str "hold"]] := mv_new (mv_new (mv_new (mv_new (mv_new (mv_new (ts := []) (ms := []) True.intro h4) h5) h6) h7) h8) h9
  have sb := (same_upd h4 (.tup [V.str "unless", .int (((cs.length + 3 : Nat) : Int) + 4)])).trans ((same_upd h5 (.tup [V.str "push", .int 7])).trans ((same_upd h6 (.tup [V.str "hold"])).trans ((same_upd h7 (.tup [V.str "jump", .int (((cs.length + 3 : Nat) : Int) + 6)])).trans ((same_upd h8 (.tup [V.str "push", .int 8])).trans ((same_upd h9 (.tup [V.str "hold"])).trans (same_upd hb2 (.lst [V.ref t4, .ref t5, .ref t6, .ref t7, .ref t8, .ref t9])))))))
  refine ⟨cd, b2, _, _, rfl, rfl, (M1.same sb).hcd, upd_same, line1000 (by rw [List.length_map]; exact M1.le) (by show 6 ≤ 1000; decide), ?_⟩
  have M2 := M1.ext sb (T2.same (same_upd hb2 _)) (by rw [List.length_append]; show cs.length + 3 + 6 ≤ 1000; omega)
  refine q [t1, t2, t3, t4, t5, t6, t7, t8, t9] _ (w1.trans ((Sb.of sb).trans sb_upd)) rfl ?_
  have e3 : cs ++ [t1, t2, t3] ++ [t4, t5, t6, t7, t8, t9] = cs ++ [t1, t2, t3, t4, t5, t6, t7, t8, t9] := by rw [List.append_assoc]; rfl
  have e4 : ms ++ [[V.str "push", .int a], [V.str "push", .int b], [V.str wd]] ++ [[V.str "unless", .int (((cs.length + 3 : Nat) : Int) + 4)], [V.str "push", .int 7], [V.str "hold"], [V.str "jump", .int (((cs.length + 3 : Nat) : Int) + 6)], [V.str "push", .int 8], [V.str "hold"]] = ms ++ (Pt.bd 0 cs.length (.choice wd a b)).map cV := by
    rw [List.append_assoc]
    rfl
  rw [e3, e4] at M2
  exact M2
end
end Car

set_option maxHeartbeats 1000000
namespace L2
open PySem
theorem abs_D {t : TS} {D : Ends} {σ : St} {H : Hp} (h : ∀ D', D' = D → t D' σ H) : t D σ H := h _ rfl
theorem abs_seq {t u : TS} {D : Ends} {σ : St} {H : Hp} (h : ∀ D' : Ends, D' = { D with nx := u D } → t D' σ H) : tSeq t u D σ H := h _ rfl
theorem nxt {t u : TS} {D D' : Ends} {σ : St} {H : Hp} (e : D' = { D with nx := tSeq t u D }) (h : ∀ D2 : Ends, D2 = { D with nx := u D } → t D2 σ H) : D'.nx σ H := by
  subst e
  exact h _ rfl
theorem nxt1 {u : TS} {D D' : Ends} {σ : St} {H : Hp} (e : D' = { D with nx := u D }) (h : u D σ H) : D'.nx σ H := by
  subst e
  exact h
theorem nxtI {N : St → Hp → Prop} {D' : Ends} {r : VK} {b c : St → Hp → Prop} {σ : St} {H : Hp} (e : D' = ⟨N, r, b, c⟩) (h : N σ H) : D'.nx σ H := by
  subst e
  exact h
end L2
namespace Car
open PySem L2
/-! ### code, calls and moves, as _law_part finds them and leaves them -/
/-- the calls of a part whose body begins at q: place, sub, names -/
noncomputable def Pt.cl (q : Nat) : Pt → List (Nat × Nat × List Str)
  | .c0 _ _ => [(q + 2, 0, ["n", "m"])]
  | .c1 _ _ => [(q + 3, 7, ["m", "n"])]
  | .c2 _ _ => [(q + 3, 11, [])]
  | _ => []
noncomputable def noCall : Rw → Prop
  | .call _ _ => False
  | _ => True
/-- what stands in the code for the rows rs, but for the calls -/
noncomputable def Pre (es : List (List V)) (rs : List Rw) : Prop := es.length = rs.length ∧ ∀ (j : Nat) (r : Rw), rs[j]? = some r → noCall r → es[j]? = some (cV r)
theorem Pre.app {es fs : List (List V)} {rs us : List Rw} (h : Pre es rs) (g : Pre fs us) : Pre (es ++ fs) (rs ++ us) := by
  refine ⟨by rw [List.length_append, List.length_append, h.1, g.1], fun j r e n => ?_⟩
  by_cases hj : j < rs.length
  · rw [List.getElem?_append_left hj] at e
    rw [List.getElem?_append_left (by rw [h.1]; exact hj)]
    exact h.2 j r e n
  · rw [List.getElem?_append_right (by omega)] at e
    rw [List.getElem?_append_right (by rw [h.1]; omega), h.1]
    exact g.2 _ r e n
theorem Pre.of (rs : List Rw) : Pre (rs.map cV) rs := ⟨List.length_map _, fun j r e _ => by rw [List.getElem?_map, e]; rfl⟩
noncomputable def ClAt (H : Hp) (cd cl mv : Addr) : List Addr → List (Nat × Nat × List Str) → Prop
  | [], [] => True
  | k :: ks, c :: CL => (∃ l, H k = some (.tup [.int (c.1 : Int), .int (c.2.1 : Int), .ref l]) ∧ H l = some (.lst (c.2.2.map V.str)) ∧ l ≠ cd ∧ l ≠ cl ∧ l ≠ mv) ∧ ClAt H cd cl mv ks CL
  | _, _ => False
section
variable {H H' : Hp} {cd cl mv : Addr}
/-- all that is no list of these four stays -/
noncomputable def Sb4 (cd cl mv st : Addr) (H H' : Hp) : Prop := ∀ x o, x ≠ cd → x ≠ cl → x ≠ mv → x ≠ st → H x = some o → H' x = some o
theorem ClAt.keep (h : ∀ x o, x ≠ cd → x ≠ cl → x ≠ mv → (∀ a b, o ≠ .lst [V.int a, .int b]) → H x = some o → H' x = some o) (h1 : ∃ xs, H cd = some (.lst xs)) (h2 : ∃ xs, H cl = some (.lst xs)) (h3 : ∃ xs, H mv = some (.lst xs)) : ∀ {ks : List Addr} {CL : List (Nat × Nat × List Str)}, ClAt H cd cl mv ks CL → ClAt H' cd cl mv ks CL
  | [], [], _ => True.intro
  | k :: ks, c :: CL, ⟨⟨l, a, b, n1, n2, n3⟩, r⟩ => by
    obtain ⟨x1, e1⟩ := h1
    obtain ⟨x2, e2⟩ := h2
    obtain ⟨x3, e3⟩ := h3
    refine ⟨⟨l, h k _ (fun z => by rw [z, e1] at a; cases a) (fun z => by rw [z, e2] at a; cases a) (fun z => by rw [z, e3] at a; cases a) (fun _ _ z => by cases z) a, h l _ n1 n2 n3 (fun p q z => ?_) b, n1, n2, n3⟩, ClAt.keep h ⟨x1, e1⟩ ⟨x2, e2⟩ ⟨x3, e3⟩ r⟩
    have z' : c.2.2.map V.str = [V.int p, .int q] := by injection z
    cases hc : c.2.2 with
    | nil => rw [hc] at z'; cases z'
    | cons y ys => rw [hc] at z'; cases z'
  | [], _ :: _, h => h.elim
  | _ :: _, [], h => h.elim
theorem ClAt.snoc {k l : Addr} {c : Nat × Nat × List Str} (a : H k = some (.tup [.int (c.1 : Int), .int (c.2.1 : Int), .ref l])) (b : H l = some (.lst (c.2.2.map V.str))) (n1 : l ≠ cd) (n2 : l ≠ cl) (n3 : l ≠ mv) : ∀ {ks : List Addr} {CL : List (Nat × Nat × List Str)}, ClAt H cd cl mv ks CL → ClAt H cd cl mv (ks ++ [k]) (CL ++ [c])
  | [], [], _ => ⟨⟨l, a, b, n1, n2, n3⟩, True.intro⟩
  | _ :: _, _ :: _, h => ⟨h.1, ClAt.snoc a b n1 n2 n3 h.2⟩
  | [], _ :: _, h => h.elim
  | _ :: _, [], h => h.elim
theorem mv_keep {a : Addr} (s : Sb a H H') (nt : ∀ m, H a ≠ some (.tup m)) : ∀ {ts : List Addr} {ms : List (List V)}, MvAt H ts ms → MvAt H' ts ms
  | [], [], _ => True.intro
  | t :: _, m :: _, h => ⟨s t _ (fun z => nt m (by rw [← z]; exact h.1)) h.1, mv_keep s nt h.2⟩
  | [], _ :: _, h => h.elim
  | _ :: _, [], h => h.elim
end
structure Pin (H : Hp) (cd cl mv : Addr) (cs ks vs : List Addr) (ms : List (List V)) (CL : List (Nat × Nat × List Str)) (mm : List (List V)) : Prop where
  code : CdA H cd cs ms
  hcl : H cl = some (.lst (ks.map V.ref))
  cla : ClAt H cd cl mv ks CL
  hmv : H mv = some (.lst (vs.map V.ref))
  mva : MvAt H vs mm
  d1 : cd ≠ cl
  d2 : cd ≠ mv
  d3 : cl ≠ mv
  lk : ks.length ≤ 100
  lv : vs.length ≤ 3000
section
variable {H H' : Hp} {cd cl mv : Addr} {cs ks vs : List Addr} {ms : List (List V)} {CL : List (Nat × Nat × List Str)} {mm : List (List V)}
theorem Pin.same (M : Pin H cd cl mv cs ks vs ms CL mm) (s : Same H H') : Pin H' cd cl mv cs ks vs ms CL mm :=
  ⟨M.code.same s, s _ _ M.hcl, M.cla.keep (fun x o _ _ _ _ e => s x o e) ⟨_, M.code.hcd⟩ ⟨_, M.hcl⟩ ⟨_, M.hmv⟩, s _ _ M.hmv, M.mva.same s, M.d1, M.d2, M.d3, M.lk, M.lv⟩
/-- the code has grown -/
theorem Pin.code' (M : Pin H cd cl mv cs ks vs ms CL mm) {cs' : List Addr} {ms' : List (List V)} (s : Sb cd H H') (c : CdA H' cd cs' ms') : Pin H' cd cl mv cs' ks vs ms' CL mm :=
  ⟨c, s _ _ (Ne.symm M.d1) M.hcl, M.cla.keep (fun x o n _ _ _ e => s x o n e) ⟨_, M.code.hcd⟩ ⟨_, M.hcl⟩ ⟨_, M.hmv⟩, s _ _ (Ne.symm M.d2) M.hmv, mv_keep s (sbn M.code.hcd) M.mva, M.d1, M.d2, M.d3, M.lk, M.lv⟩
/-- the state has changed -/
theorem Pin.state (M : Pin H cd cl mv cs ks vs ms CL mm) {st : Addr} {a b a' b' : Int} (h : H st = some (.lst [.int a, .int b])) (n1 : st ≠ cd) (n2 : st ≠ cl) (n3 : st ≠ mv) : Pin (upd H st (.lst [.int a', .int b'])) cd cl mv cs ks vs ms CL mm := by
  have nt := sbn h
  exact ⟨⟨by rw [upd_ne (Ne.symm n1)]; exact M.code.hcd, M.code.mv.upd nt, M.code.le⟩, by rw [upd_ne (Ne.symm n2)]; exact M.hcl, M.cla.keep (fun x o _ _ _ no e => by
    rw [upd_ne (fun z => by rw [z, h] at e; cases e; exact no _ _ rfl)]
    exact e) ⟨_, M.code.hcd⟩ ⟨_, M.hcl⟩ ⟨_, M.hmv⟩, by rw [upd_ne (Ne.symm n3)]; exact M.hmv, M.mva.upd nt, M.d1, M.d2, M.d3, M.lk, M.lv⟩
/-- more moves -/
theorem Pin.moves (M : Pin H cd cl mv cs ks vs ms CL mm) {ts : List Addr} {es : List (List V)} (T : MvAt H ts es) (hl : vs.length + ts.length ≤ 3000) : Pin (upd H mv (.lst (vs.map V.ref ++ ts.map V.ref))) cd cl mv cs ks (vs ++ ts) ms CL (mm ++ es) := by
  have nt := sbn M.hmv
  exact ⟨⟨by rw [upd_ne M.d2]; exact M.code.hcd, M.code.mv.upd nt, M.code.le⟩, by rw [upd_ne M.d3]; exact M.hcl, M.cla.keep (fun x o _ _ n _ e => by rw [upd_ne n]; exact e) ⟨_, M.code.hcd⟩ ⟨_, M.hcl⟩ ⟨_, M.hmv⟩, by rw [upd_same, List.map_append], (M.mva.app T).upd nt, M.d1, M.d2, M.d3, M.lk, by rw [List.length_append]; exact hl⟩
/-- one call more -/
theorem Pin.call (M : Pin H cd cl mv cs ks vs ms CL mm) {k l : Addr} {c : Nat × Nat × List Str} (a : H k = some (.tup [.int (c.1 : Int), .int (c.2.1 : Int), .ref l])) (b : H l = some (.lst (c.2.2.map V.str))) (n1 : l ≠ cd) (n2 : l ≠ cl) (n3 : l ≠ mv) (hl : ks.length < 100) :
    Pin (upd H cl (.lst (ks.map V.ref ++ [.ref k]))) cd cl mv cs (ks ++ [k]) vs ms (CL ++ [c]) mm := by
  have nt := sbn M.hcl
  have e : ks.map V.ref ++ [V.ref k] = (ks ++ [k]).map V.ref := by rw [List.map_append]; rfl
  rw [e]
  exact ⟨⟨by rw [upd_ne M.d1]; exact M.code.hcd, M.code.mv.upd nt, M.code.le⟩, upd_same, (ClAt.snoc a b n1 n2 n3 M.cla).keep (fun x o _ n _ _ e => by rw [upd_ne n]; exact e) ⟨_, M.code.hcd⟩ ⟨_, M.hcl⟩ ⟨_, M.hmv⟩, by rw [upd_ne (Ne.symm M.d3)]; exact M.hmv, M.mva.upd nt, M.d1, M.d2, M.d3, by rw [List.length_append]; exact hl, M.lv⟩
theorem Pin.ext2 (M : Pin H cd cl mv cs ks vs ms CL mm) {t1 t2 l : Addr} {m1 m2 : List V} (h1 : H t1 = none) (h2 : upd H t1 (.tup m1) t2 = none) (hl : upd (upd H t1 (.tup m1)) t2 (.tup m2) l = none) (hc : cs.length + 2 ≤ 1000) :
    (upd (upd (upd H t1 (.tup m1)) t2 (.tup m2)) l (.lst [V.ref t1, V.ref t2])) cd = some (.lst (cs.map V.ref)) ∧ Sb cd H (upd (upd (upd (upd H t1 (.tup m1)) t2 (.tup m2)) l (.lst [V.ref t1, V.ref t2])) cd (.lst (cs.map V.ref ++ [V.ref t1, V.ref t2]))) ∧ Pin (upd (upd (upd (upd H t1 (.tup m1)) t2 (.tup m2)) l (.lst [V.ref t1, V.ref t2])) cd (.lst (cs.map V.ref ++ [V.ref t1, V.ref t2]))) cd cl mv (cs ++ [t1, t2]) ks vs (ms ++ [m1, m2]) CL mm := by
  have T1 : MvAt _ [t1, t2] [m1, m2] := mv_new (mv_new (ts := []) (ms := []) True.intro h1) h2
  have sb : Same H (upd (upd (upd H t1 (.tup m1)) t2 (.tup m2)) l (.lst [V.ref t1, V.ref t2])) := (same_upd h1 _).trans ((same_upd h2 _).trans (same_upd hl _))
  exact ⟨(M.code.same sb).hcd, (Sb.of sb).trans sb_upd, M.code' ((Sb.of sb).trans sb_upd) (M.code.ext sb (T1.same (same_upd hl _)) hc)⟩
theorem Pin.ext3 (M : Pin H cd cl mv cs ks vs ms CL mm) {t1 t2 t3 l : Addr} {m1 m2 m3 : List V} (h1 : H t1 = none) (h2 : upd H t1 (.tup m1) t2 = none) (h3 : upd (upd H t1 (.tup m1)) t2 (.tup m2) t3 = none) (hl : upd (upd (upd H t1 (.tup m1)) t2 (.tup m2)) t3 (.tup m3) l = none) (hc : cs.length + 3 ≤ 1000) :
    (upd (upd (upd (upd H t1 (.tup m1)) t2 (.tup m2)) t3 (.tup m3)) l (.lst [V.ref t1, V.ref t2, V.ref t3])) cd = some (.lst (cs.map V.ref)) ∧ Sb cd H (upd (upd (upd (upd (upd H t1 (.tup m1)) t2 (.tup m2)) t3 (.tup m3)) l (.lst [V.ref t1, V.ref t2, V.ref t3])) cd (.lst (cs.map V.ref ++ [V.ref t1, V.ref t2, V.ref t3]))) ∧ Pin (upd (upd (upd (upd (upd H t1 (.tup m1)) t2 (.tup m2)) t3 (.tup m3)) l (.lst [V.ref t1, V.ref t2, V.ref t3])) cd (.lst (cs.map V.ref ++ [V.ref t1, V.ref t2, V.ref t3]))) cd cl mv (cs ++ [t1, t2, t3]) ks vs (ms ++ [m1, m2, m3]) CL mm := by
  have T1 : MvAt _ [t1, t2, t3] [m1, m2, m3] := mv_new (mv_new (mv_new (ts := []) (ms := []) True.intro h1) h2) h3
  have sb : Same H (upd (upd (upd (upd H t1 (.tup m1)) t2 (.tup m2)) t3 (.tup m3)) l (.lst [V.ref t1, V.ref t2, V.ref t3])) := (same_upd h1 _).trans ((same_upd h2 _).trans ((same_upd h3 _).trans (same_upd hl _)))
  exact ⟨(M.code.same sb).hcd, (Sb.of sb).trans sb_upd, M.code' ((Sb.of sb).trans sb_upd) (M.code.ext sb (T1.same (same_upd hl _)) hc)⟩
theorem Pin.calls (M : Pin H cd cl mv cs ks vs ms CL mm) {st l k : Addr} {n b : Nat} {bb : Int} {xs : List Str} {ys : List V} (h2 : H l = none) (hk : upd H l (.lst ys) k = none) (hl : ks.length < 100) (e1 : (b : Int) = bb) (e2 : xs.map V.str = ys) :
    upd (upd H l (.lst ys)) k (.tup [.int (n : Int), .int bb, .ref l]) cl = some (.lst (ks.map V.ref)) ∧
    Pin (upd (upd (upd H l (.lst ys)) k (.tup [.int (n : Int), .int bb, .ref l])) cl (.lst (ks.map V.ref ++ [.ref k]))) cd cl mv cs (ks ++ [k]) vs ms (CL ++ [(n, b, xs)]) mm ∧
    Sb4 cd cl mv st H (upd (upd (upd H l (.lst ys)) k (.tup [.int (n : Int), .int bb, .ref l])) cl (.lst (ks.map V.ref ++ [.ref k]))) := by
  subst e1
  subst e2
  have u1 := same_upd h2 (.lst (xs.map V.str))
  have u2 := same_upd hk (.tup [V.int (n : Int), .int (b : Int), .ref l])
  have M5 := M.same (u1.trans u2)
  refine ⟨M5.hcl, M5.call (c := (n, b, xs)) upd_same (u2 _ _ upd_same) (fun z => by rw [z, M.code.hcd] at h2; cases h2) (fun z => by rw [z, M.hcl] at h2; cases h2) (fun z => by rw [z, M.hmv] at h2; cases h2) hl, fun x o _ n2 _ _ e => ?_⟩
  rw [upd_ne n2]
  exact (u1.trans u2) _ _ e
end
end Car

set_option maxHeartbeats 2000000
namespace Car
open PySem L2
section
variable {cd cl mv st : Addr} {H H1 H2 : Hp}
theorem Sb4.tr (h : Sb4 cd cl mv st H H1) (g : Sb4 cd cl mv st H1 H2) : Sb4 cd cl mv st H H2 := fun x o a b c d e => g x o a b c d (h x o a b c d e)
theorem Sb4.sm (s : Same H H1) : Sb4 cd cl mv st H H1 := fun x o _ _ _ _ e => s x o e
theorem Sb4.ofcd (s : Sb cd H H1) : Sb4 cd cl mv st H H1 := fun x o n _ _ _ e => s x o n e
theorem Sb4.umv {o : HO} : Sb4 cd cl mv st H (upd H mv o) := fun x u _ _ n _ e => by rw [upd_ne n]; exact e
theorem Sb4.ust {o : HO} : Sb4 cd cl mv st H (upd H st o) := fun x u _ _ _ n e => by rw [upd_ne n]; exact e
theorem rep_at {t : Addr} {m : List V} (h : H t = some (.tup m)) : ∀ n, MvAt H (List.replicate n t) (List.replicate n m)
  | 0 => True.intro
  | n + 1 => ⟨h, rep_at h n⟩
theorem rep_ref (t : Addr) : ∀ n, (List.replicate n [V.ref t]).flatten = (List.replicate n t).map V.ref
  | 0 => rfl
  | n + 1 => by rw [List.replicate_succ, List.flatten_cons, rep_ref t n, List.replicate_succ]; rfl
end
theorem n_b9 {f : Int} (h : 0 ≤ f) (g : f < 9) : -4 ≤ f - 4 ∧ f - 4 ≤ 4 := by omega
theorem n_vm {a m : Nat} (h : a + 10 ≤ 3000) (g : (m : Int) < 6) : a + m ≤ 3000 ∧ m ≤ 5 := by omega
section
variable {P : Program} {w : World} {K : PySem.W.Frag} {mg : Str → Option Value} {base : Heap} {f : Addr} {fd' : FuncData}
noncomputable def spPart : Sp := fun args H Q _ => ∃ (cd cl mv st : Addr) (c b : Int) (cs ks vs : List Addr) (ms : List (List V)) (CL : List (Nat × Nat × List Str)) (mm : List (List V)), args = [.ref cd, .ref cl, .ref mv, .ref st] ∧ Pin H cd cl mv cs ks vs ms CL mm ∧ H st = some (.lst [.int c, .int b]) ∧
  st ≠ cd ∧ st ≠ cl ∧ st ≠ mv ∧ cs.length + 20 ≤ 1000 ∧ ks.length < 100 ∧ vs.length + 10 ≤ 3000 ∧
  ∀ (pt : Pt) (ts ks' vs' : List Addr) (es : List (List V)) (H' : Hp), pt.ok → Pin H' cd cl mv (cs ++ ts) (ks ++ ks') (vs ++ vs') (ms ++ es) (CL ++ pt.cl cs.length) (mm ++ pt.mvs) → (∀ B, Pre es (pt.bd B cs.length)) → Sb4 cd cl mv st H H' → Q (.int (pt.cn : Int)) H'
theorem scPart : FnScope ["code", "calls", "moves", "state", "kind", "first", "second", "many", "word"] ["code", "calls", "moves", "state"] (defScope sPart) := ⟨rfl, rfl, rfl, by decide +kernel, rfl, by decide +kernel, by decide +kernel⟩
theorem ok_part (T : LawT mg) (FT : Fn P w K mg base "_law_take" 1 ["state", "many"] spTk) (FL : Fn P w K mg base "_law_loop" 1 ["code", "many", "value"] spLoop) (FH : Fn P w K mg base "_law_choice" 1 ["code", "word", "first", "second"] spChoice)
    (F : Fun K "_law_part" "_law_part" sPart f fd') : FnOk P w K mg base (CX1 P w) 2 f fd' ["code", "calls", "moves", "state"] spPart := by
  have nd := scPart.nd
  refine F.ok1 scPart (fun vs H Q E h => ?_) (fun cdv A outer s H vs Q E hr h => ?_)
  · obtain ⟨cd, cl, mv, st, c, b, cs, ks, vs, ms, CL, mm, rfl, _⟩ := h
    rfl
  obtain ⟨cd, cl, mv, st, c, b, cs, ks, vs, ms, CL, mm, rfl, M, hst, n1, n2, n3, hcs, hks, hvs, q⟩ := h
  have hr1 : Room 1 _ := hr.mono (by decide)
  refine ⟨_, (pss_cons (ps_set (i := 4) nd rfl (Or.inl rfl) (pf_call FT hr1 rfl (pass1 (E := E)) (pa_cons (pv 3) (pa_cons pe_int pa_nil))))
    (pss_cons (ps_set (i := 5) nd rfl (Or.inl rfl) (pe_op op_sub (pf_call FT hr1 rfl (pass1 (E := E)) (pa_cons (pv 3) (pa_cons pe_int pa_nil))) pe_int))
    (pss_cons (ps_set (i := 6) nd rfl (Or.inl rfl) (pe_op op_sub (pf_call FT hr1 rfl (pass1 (E := E)) (pa_cons (pv 3) (pa_cons pe_int pa_nil))) pe_int))
    (pss_mid (ps_if (pt_cmpR op_eq (pv 4) pe_int (nomark _)) (pss_cons (ps_set (i := 7) nd rfl (Or.inl rfl) (pf_call FT hr1 rfl (pass1 (E := E)) (pa_cons (pv 3) (pa_cons pe_int pa_nil))))
    (pss_cons (ps_expr (pf_call FL hr1 rfl (pass1 (E := E)) (pa_cons (pv 0) (pa_cons (pv 7) (pa_cons (pv 5) pa_nil)))))
    (pss_cons (ps_expr (pe_bm PySem.F.plainAttrs_list PySem.F.slot_list_extend PySem.F.type_list_extend mt_extend (pv 2) (pa_cons (pe_op op_rep (pe_lst (pa_cons (pe_tup (pa_cons pe_str (pa_cons (pv 5) pa_nil))) pa_nil)) (pv 7)) pa_nil)))
    (pss_one (ps_ret (pv 7)))))) pss_nil)
    (pss_mid (ps_if (pt_cmpR op_eq (pv 4) pe_int (nomark _)) (pss_cons (ps_set (i := 8) nd rfl (Or.inl rfl) (pe_ix ix_list (pe_lst (pa_cons pe_str (pa_cons pe_str pa_nil))) (pf_call FT hr1 rfl (pass1 (E := E)) (pa_cons (pv 3) (pa_cons pe_int pa_nil))) (fun _ _ => rfl)))
    (pss_cons (ps_expr (pf_call FH hr1 rfl (pass1 (E := E)) (pa_cons (pv 0) (pa_cons (pv 8) (pa_cons (pv 5) (pa_cons (pv 6) pa_nil))))))
    (pss_cons (ps_expr (pe_bm PySem.F.plainAttrs_list PySem.F.slot_list_append PySem.F.type_list_append mt_append (pv 2) (pa_cons (pe_tup (pa_cons pe_str (pa_cons (pe_ix ix_list (pe_lst (pa_cons pe_int (pa_cons pe_int pa_nil))) (pe_callTy call_int1 rfl T.int bt_int (pa_cons (pe_ix ix_list (pe_lst (pa_cons (pe_cmpR op_lt (pv 5) (pv 6) (nomark _)) (pa_cons (pe_cmpR op_eq (pv 5) (pv 6) (nomark _)) pa_nil))) (pe_callTy call_int1 rfl T.int bt_int (pa_cons (pe_cmpR op_eq (pv 8) pe_str (nomark _)) pa_nil)) (fun _ _ => rfl)) pa_nil)) (fun _ _ => rfl)) pa_nil))) pa_nil)))
    (pss_one (ps_ret pe_int))))) pss_nil)
    (pss_cons (ps_if (pt_cmpR op_eq (pv 4) pe_int (nomark _)) (pss_cons (ps_expr (pe_bm PySem.F.plainAttrs_list PySem.F.slot_list_extend PySem.F.type_list_extend mt_extend (pv 0) (pa_cons (pe_lst (pa_cons (pe_tup (pa_cons pe_str (pa_cons (pv 5) pa_nil))) (pa_cons (pe_tup (pa_cons pe_str (pa_cons (pv 6) pa_nil))) pa_nil))) pa_nil)))
    (pss_cons (ps_expr (pe_bm PySem.F.plainAttrs_list PySem.F.slot_list_append PySem.F.type_list_append mt_append (pv 1) (pa_cons (pe_tup (pa_cons (pe_callB call_len_seq rfl T.len PySem.boot_len (pa_cons (pv 0) pa_nil)) (pa_cons pe_int (pa_cons (pe_lst (pa_cons pe_str (pa_cons pe_str pa_nil))) pa_nil)))) pa_nil)))
    (pss_cons (ps_expr (pe_bm PySem.F.plainAttrs_list PySem.F.slot_list_append PySem.F.type_list_append mt_append (pv 0) (pa_cons (pe_tup (pa_cons pe_str (pa_cons pe_int (pa_cons (pe_lst pa_nil) pa_nil)))) pa_nil)))
    (pss_one (ps_expr (pe_bm PySem.F.plainAttrs_list PySem.F.slot_list_append PySem.F.type_list_append mt_append (pv 2) (pa_cons (pe_tup (pa_cons pe_str (pa_cons (pe_op op_sub (pv 5) (pv 6)) pa_nil))) pa_nil))))))) (pss_one (ps_if (pt_cmpR op_eq (pv 4) pe_int (nomark _)) (pss_cons (ps_expr (pe_bm PySem.F.plainAttrs_list PySem.F.slot_list_extend PySem.F.type_list_extend mt_extend (pv 0) (pa_cons (pe_lst (pa_cons (pe_tup (pa_cons pe_str (pa_cons (pe_op op_add pe_int (pv 6)) pa_nil))) (pa_cons (pe_tup (pa_cons pe_str (pa_cons (pv 5) pa_nil))) (pa_cons (pe_tup (pa_cons pe_str (pa_cons (pv 6) pa_nil))) pa_nil)))) pa_nil)))
    (pss_cons (ps_expr (pe_bm PySem.F.plainAttrs_list PySem.F.slot_list_append PySem.F.type_list_append mt_append (pv 1) (pa_cons (pe_tup (pa_cons (pe_callB call_len_seq rfl T.len PySem.boot_len (pa_cons (pv 0) pa_nil)) (pa_cons pe_int (pa_cons (pe_lst (pa_cons pe_str (pa_cons pe_str pa_nil))) pa_nil)))) pa_nil)))
    (pss_cons (ps_expr (pe_bm PySem.F.plainAttrs_list PySem.F.slot_list_extend PySem.F.type_list_extend mt_extend (pv 0) (pa_cons (pe_lst (pa_cons (pe_tup (pa_cons pe_str (pa_cons pe_int (pa_cons (pe_lst pa_nil) pa_nil)))) (pa_cons (pe_tup (pa_cons pe_str pa_nil)) (pa_cons (pe_tup (pa_cons pe_str pa_nil)) pa_nil)))) pa_nil)))
    (pss_one (ps_expr (pe_bm PySem.F.plainAttrs_list PySem.F.slot_list_append PySem.F.type_list_append mt_append (pv 2) (pa_cons (pe_tup (pa_cons pe_str (pa_cons (pe_op op_add (pe_op op_add pe_int (pv 6)) (pe_op op_mul (pv 5) (pv 6))) pa_nil))) pa_nil))))))) (pss_cons (ps_expr (pe_bm PySem.F.plainAttrs_list PySem.F.slot_list_extend PySem.F.type_list_extend mt_extend (pv 0) (pa_cons (pe_lst (pa_cons (pe_tup (pa_cons pe_str (pa_cons pe_int pa_nil))) (pa_cons (pe_tup (pa_cons pe_str (pa_cons (pv 5) pa_nil))) (pa_cons (pe_tup (pa_cons pe_str (pa_cons (pv 6) pa_nil))) pa_nil)))) pa_nil)))
    (pss_cons (ps_expr (pe_bm PySem.F.plainAttrs_list PySem.F.slot_list_append PySem.F.type_list_append mt_append (pv 1) (pa_cons (pe_tup (pa_cons (pe_callB call_len_seq rfl T.len PySem.boot_len (pa_cons (pv 0) pa_nil)) (pa_cons pe_int (pa_cons (pe_lst pa_nil) pa_nil)))) pa_nil)))
    (pss_cons (ps_expr (pe_bm PySem.F.plainAttrs_list PySem.F.slot_list_extend PySem.F.type_list_extend mt_extend (pv 0) (pa_cons (pe_lst (pa_cons (pe_tup (pa_cons pe_str (pa_cons pe_int (pa_cons (pe_lst pa_nil) pa_nil)))) (pa_cons (pe_tup (pa_cons pe_str pa_nil)) (pa_cons (pe_tup (pa_cons pe_str pa_nil)) pa_nil)))) pa_nil)))
    (pss_one (ps_expr (pe_bm PySem.F.plainAttrs_list PySem.F.slot_list_extend PySem.F.type_list_extend mt_extend (pv 2) (pa_cons (pe_lst (pa_cons (pe_tup (pa_cons pe_str (pa_cons (pe_op op_sub (pv 5) (pv 6)) pa_nil))) (pa_cons (pe_tup (pa_cons pe_str (pa_cons pe_int pa_nil))) pa_nil))) pa_nil))))))))))
    (pss_one (ps_ret pe_int)))))))), ?_⟩
  refine abs_D fun D0 e0 => abs_seq fun D1 e1 => ?_
  refine ⟨_, rfl, st, c, b, 5, rfl, hst, (by decide), (by decide), fun kd c1 k0 k5 => nxt (D' := D1) e1 fun D2 e2 => ?_⟩
  clear e1
  have M1 := M.state (a' := c1) (b' := b) hst n1 n2 n3
  refine ⟨_, rfl, st, c1, b, 9, rfl, upd_same, (by decide), (by decide), fun f1 c2 f0 f9 => ⟨_, _, rfl, rfl, nxt (D' := D2) e2 fun D3 e3 => ?_⟩⟩
  clear e2
  rw [upd_upd]
  refine ⟨_, rfl, st, c2, b, 9, rfl, upd_same, (by decide), (by decide), fun g1 c3 g0 g9 => ⟨_, _, rfl, rfl, nxt1 (D' := D3) e3 ?_⟩⟩
  clear e3
  rw [upd_upd]
  have M3 := M.state (a' := c3) (b' := b) hst n1 n2 n3
  have hs3 : upd H st (.lst [.int c3, .int b]) st = some (.lst [.int c3, .int b]) := upd_same
  have w3 : Sb4 cd cl mv st H (upd H st (.lst [.int c3, .int b])) := fun x o _ _ _ n e => by rw [upd_ne n]; exact e
  generalize upd H st (.lst [.int c3, .int b]) = H3 at M3 hs3 w3
  clear M1
  have bf := n_b9 f0 f9
  have bg := n_b9 g0 g9
  have lc2 : cs.length + 2 ≤ 1000 := Nat.le_trans (Nat.add_le_add_left (by decide) _) hcs
  have lc3 : cs.length + 3 ≤ 1000 := Nat.le_trans (Nat.add_le_add_left (by decide) _) hcs
  have lc6 : cs.length + 3 + 3 ≤ 1000 := Nat.le_trans (Nat.add_le_add_left (show 6 ≤ 20 by decide) cs.length) hcs
  have kk : ks.length ≤ 100 := Nat.le_of_lt hks
  have v0 : vs.length ≤ 3000 := Nat.le_trans (Nat.le_add_right _ _) hvs
  have v1 : vs.length + 1 ≤ 3000 := Nat.le_trans (Nat.add_le_add_left (by decide) _) hvs
  have v2 : vs.length + 2 ≤ 3000 := Nat.le_trans (Nat.add_le_add_left (by decide) _) hvs
  refine ⟨fun σ G => σ = [some (.ref cd), some (.ref cl), some (.ref mv), some (.ref st), some (.int kd), some (.int (f1 - 4)), some (.int (g1 - 4)), none, none] ∧ H3 = G, ?_, ?_⟩
  · refine abs_D fun Dm em => ?_
    refine ⟨_, rfl, rfl, _, rfl, ?_⟩
    refine ite2 (fun x0 => abs_seq fun M1 p1 => ?_) (fun x0 => nxtI (D' := Dm) em ⟨rfl, rfl⟩)
    refine ⟨_, rfl, st, c3, b, 6, rfl, hs3, (by decide), (by decide), fun m1 c4 m0 m6 => nxt (D' := M1) p1 fun M2 p2 => ?_⟩
    clear p1
    obtain ⟨m, rfl⟩ : ∃ m : Nat, m1 = (m : Int) := ⟨m1.toNat, by omega⟩
    have M4 := M3.state (a' := c4) (b' := b) hs3 n1 n2 n3
    have w4 : Sb4 cd cl mv st H (upd H3 st (.lst [.int c4, .int b])) := w3.tr Sb4.ust
    generalize upd H3 st (.lst [.int c4, .int b]) = H4 at M4 w4
    refine ⟨_, rfl, _, rfl, _, rfl, cd, m, f1 - 4, cs, ms, rfl, M4.code, Nat.le_trans (Nat.add_le_add_left (by decide) _) hcs, fun ts H5 s5 tl C5 => nxt (D' := M2) p2 fun M3 p3 => ?_⟩
    clear p2
    have M5 := M4.code' s5 C5
    have w5 : Sb4 cd cl mv st H H5 := w4.tr (Sb4.ofcd s5)
    refine ⟨_, rfl, .inl ⟨rfl, _, SqL.of M5.hmv⟩, _, rfl, le2, fun t ht => ⟨le1, fun l hl => ⟨_, rfl, l, (m : Int), _, rfl, rfl, upd_same, (by omega), (by omega), (by show 1 * (m : Int).toNat ≤ sizeLine; rw [Nat.one_mul, Int.toNat_natCast]; exact Nat.le_trans (show m ≤ 6 by omega) (by decide)), fun p hp => ?_⟩⟩⟩
    have u1 := same_upd ht (.tup [V.str "hold", .int (f1 - 4)])
    have u2 := same_upd hl (.lst [V.ref t])
    rw [Int.toNat_natCast, rep_ref]
    have u3 := same_upd hp (.lst ((List.replicate m t).map V.ref))
    have uu := u1.trans (u2.trans u3)
    have M6 := M5.same uu
    refine ⟨mv, p, _, _, rfl, rfl, M6.hmv, upd_same, (by rw [List.length_map, List.length_map, List.length_replicate]; exact Nat.le_trans (n_vm hvs m6).1 (by decide)), ?_⟩
    have M7 := M6.moves (rep_at (u3 _ _ (u2 _ _ upd_same)) m) (by rw [List.length_replicate]; exact (n_vm hvs m6).1)
    refine nxt1 (D' := M3) p3 ?_
    subst em e0
    refine ⟨_, rfl, q (.loop m (f1 - 4)) ts [] (List.replicate m t) _ _ ⟨(n_vm hvs m6).2, bf.1, bf.2⟩ (by rw [List.append_nil, show (Pt.loop m (f1 - 4)).cl cs.length = [] from rfl, List.append_nil]; exact M7) (fun B => Pre.of _) (w5.tr ((Sb4.sm uu).tr Sb4.umv))⟩
  · rintro _ _ ⟨rfl, rfl⟩
    refine ⟨fun σ G => σ = [some (.ref cd), some (.ref cl), some (.ref mv), some (.ref st), some (.int kd), some (.int (f1 - 4)), some (.int (g1 - 4)), none, none] ∧ H3 = G, ?_, ?_⟩
    · refine abs_D fun Dm em => ?_
      refine ⟨_, rfl, rfl, _, rfl, ?_⟩
      refine ite2 (fun x1 => abs_seq fun M1 g1' => ?_) (fun x1 => nxtI (D' := Dm) em ⟨rfl, rfl⟩)
      refine ⟨le2, fun l1 h1 => ?_⟩
      have u1 := same_upd h1 (.lst [V.str "less", .str "same"])
      have l1s : l1 ≠ st := fun z => by rw [z, hs3] at h1; cases h1
      refine ⟨_, rfl, st, c3, b, 2, rfl, u1 _ _ hs3, (by decide), (by decide), fun z c4 z0 z2 => ?_⟩
      obtain ⟨wd, ew, hw⟩ : ∃ wd : Str, atI [V.str "less", V.str "same"] z = some (.str wd) ∧ (wd = "less" ∨ wd = "same") := by
        have : z = 0 ∨ z = 1 := by omega
        rcases this with rfl | rfl
        · exact ⟨"less", rfl, .inl rfl⟩
        · exact ⟨"same", rfl, .inr rfl⟩
      have M4 := (M3.same u1).state (a' := c4) (b' := b) (u1 _ _ hs3) n1 n2 n3
      have e4 : upd (upd H3 l1 (.lst [V.str "less", .str "same"])) st (.lst [.int c4, .int b]) l1 = some (.lst [V.str "less", .str "same"]) := by rw [upd_ne l1s, upd_same]
      have w4 : Sb4 cd cl mv st H (upd (upd H3 l1 (.lst [V.str "less", .str "same"])) st (.lst [.int c4, .int b])) := w3.tr ((Sb4.sm u1).tr Sb4.ust)
      generalize upd (upd H3 l1 (.lst [V.str "less", .str "same"])) st (.lst [.int c4, .int b]) = H4 at M4 e4 w4
      refine ⟨l1, _, z, .str wd, rfl, rfl, SqL.of e4, ew, nxt (D' := M1) g1' fun M2 g2' => ?_⟩
      clear g1'
      refine ⟨_, rfl, _, rfl, _, rfl, _, rfl, cd, wd, f1 - 4, g1 - 4, cs, ms, rfl, M4.code, Nat.le_trans (Nat.add_le_add_left (by decide) _) hcs, fun ts H5 s5 tl C5 => nxt (D' := M2) g2' fun M3 g3' => ?_⟩
      clear g2'
      have M5 := M4.code' s5 C5
      have w5 : Sb4 cd cl mv st H H5 := w4.tr (Sb4.ofcd s5)
      refine ⟨_, rfl, .inl ⟨rfl, _, SqL.of M5.hmv⟩, le2, fun l2 h2 => ⟨_, rfl, _, rfl, _, _, rfl, rfl, _, rfl, _, rfl, rfl, le2, fun l3 h3 => ?_⟩⟩
      have u2 := same_upd h2 (.lst [V.int 8, .int 7])
      have u3 := same_upd h3 (.lst [V.bl (decide (f1 - 4 < g1 - 4)), .bl (decide (V.int (f1 - 4) = V.int (g1 - 4)))])
      obtain ⟨vb, e5, e6⟩ : ∃ vb : Bool, atI [V.bl (decide (f1 - 4 < g1 - 4)), V.bl (decide (V.int (f1 - 4) = V.int (g1 - 4)))] (if decide (V.str wd = V.str "same") = true then 1 else 0) = some (.bl vb) ∧ (if vb = true then (1 : Int) else 0) = cmpI wd (f1 - 4) (g1 - 4) := by
        rcases hw with rfl | rfl
        · refine ⟨decide (f1 - 4 < g1 - 4), ?_, ?_⟩
          · rw [if_neg (fun z => absurd (V.str.inj (of_decide_eq_true z)) (by decide +kernel))]
            rfl
          · unfold cmpI
            rw [if_pos rfl]
            by_cases h : f1 - 4 < g1 - 4
            · rw [if_pos h, if_pos (decide_eq_true h)]
            · rw [if_neg h, if_neg (fun z => h (of_decide_eq_true z))]
        · refine ⟨decide (V.int (f1 - 4) = V.int (g1 - 4)), ?_, ?_⟩
          · rw [if_pos (decide_eq_true rfl)]
            rfl
          · unfold cmpI
            rw [if_neg (show ¬ ("same" : Str) = "less" by decide +kernel)]
            by_cases h : f1 - 4 = g1 - 4
            · rw [if_pos h, if_pos (decide_eq_true (by rw [h]))]
            · rw [if_neg h, if_neg (fun z => h (V.int.inj (of_decide_eq_true z)))]
      obtain ⟨vi, e7, e8⟩ : ∃ vi : Int, atI [V.int 8, V.int 7] (if vb = true then (1 : Int) else 0) = some (.int vi) ∧ vi = if cmpI wd (f1 - 4) (g1 - 4) = 0 then 8 else 7 := by
        rw [← e6]
        cases vb
        · exact ⟨8, rfl, rfl⟩
        · exact ⟨7, rfl, rfl⟩
      refine ⟨_, rfl, rfl, .inr ⟨_, rfl, l3, _, _, .bl vb, rfl, rfl, SqL.of upd_same, e5, .inr ⟨_, rfl, l2, _, _, .int vi, rfl, rfl, SqL.of (u3 _ _ upd_same), e7, le2, fun t ht => ?_⟩⟩⟩
      have u4 := same_upd ht (.tup [V.str "hold", .int vi])
      have uu := u2.trans (u3.trans u4)
      have M6 := M5.same uu
      refine ⟨mv, _, .ref t, rfl, rfl, M6.hmv, (by rw [List.length_map]; exact Nat.lt_of_le_of_lt v0 (by decide)), ?_⟩
      have M7 := M6.moves (ts := [t]) (es := [hd vi]) ⟨upd_same, True.intro⟩ v1
      refine nxt1 (D' := M3) g3' ?_
      subst em e0
      exact q (.choice wd (f1 - 4) (g1 - 4)) ts [] [t] _ _ ⟨hw, bf.1, bf.2, bg.1, bg.2⟩ (by rw [List.append_nil, show (Pt.choice wd (f1 - 4) (g1 - 4)).cl cs.length = [] from rfl, List.append_nil, show (Pt.choice wd (f1 - 4) (g1 - 4)).mvs = [hd vi] by rw [e8]; rfl]; exact M7) (fun B => Pre.of _) (w5.tr ((Sb4.sm uu).tr Sb4.umv))
    · rintro _ _ ⟨rfl, rfl⟩
      refine abs_seq fun Dr er => ?_
      refine ⟨_, rfl, rfl, _, rfl, ?_⟩
      refine ite2 (fun x2 => abs_seq fun N1 d1 => ?_) (fun x2 => ?_)
      · refine ⟨_, rfl, .inl ⟨rfl, _, SqL.of M3.code.hcd⟩, _, rfl, le2, fun t1 h1 => ⟨_, rfl, le2, fun t2 h2 => ⟨le2, fun l hl => ?_⟩⟩⟩
        obtain ⟨g4, b4, M4⟩ := M3.ext2 h1 h2 hl lc2
        have w4 := w3.tr (Sb4.ofcd (cl := cl) (mv := mv) (st := st) b4)
        refine ⟨cd, l, _, _, rfl, rfl, g4, upd_same, line1000 (by rw [List.length_map]; exact M3.code.le) (by show 2 ≤ 1000; decide), ?_⟩
        generalize upd _ cd (.lst (cs.map V.ref ++ [V.ref t1, V.ref t2])) = H4 at M4 w4 b4
        refine nxt (D' := N1) d1 fun N2 d2 => ?_
        clear d1
        have e1 : ((cs ++ [t1, t2]).map V.ref).length = cs.length + 2 := by rw [List.length_map, List.length_append]; rfl
        refine ⟨_, rfl, .inl ⟨rfl, _, SqL.of M4.hcl⟩, _, rfl, cd, _, rfl, .inl (SqL.of M4.code.hcd), ?_⟩
        rw [e1]
        refine ⟨le2, fun l2 h2 => ⟨le3, fun k hk => ?_⟩⟩
        obtain ⟨g6, M6, w6'⟩ := M4.calls (st := st) (n := cs.length + 2) (b := 0) (bb := 0) (xs := ["n", "m"]) h2 hk hks rfl rfl
        have w6 := w4.tr w6'
        refine ⟨cl, _, .ref k, rfl, rfl, g6, (by rw [List.length_map]; exact Nat.lt_of_le_of_lt kk (by decide)), ?_⟩
        generalize upd _ cl (.lst (ks.map V.ref ++ [V.ref k])) = H6 at M6 w6 w6'
        refine nxt (D' := N2) d2 fun N3 d3 => ?_
        clear d2
        refine ⟨_, rfl, .inl ⟨rfl, _, SqL.of M6.code.hcd⟩, Nat.zero_le _, fun l3 h3 => ⟨le3, fun t4 h4 => ?_⟩⟩
        have u3 := same_upd h3 (.lst [])
        have u4 := same_upd h4 (.tup [V.str "call", .int 0, .ref l3])
        have u34 := u3.trans u4
        have M7 := M6.same u34
        refine ⟨cd, _, .ref t4, rfl, rfl, M7.code.hcd, (by rw [e1]; exact line3 lc2 (by decide)), ?_⟩
        have M8 : Pin (upd _ cd (.lst ((cs ++ [t1, t2]).map V.ref ++ [V.ref t4]))) cd cl mv (cs ++ [t1, t2] ++ [t4]) _ vs _ _ mm := M7.code' sb_upd (M7.code.ext (ts := [t4]) (es := [[V.str "call", .int 0, .ref l3]]) (Same.refl _) ⟨upd_same, True.intro⟩ (by rw [List.length_append]; exact lc3))
        have w8 : Sb4 cd cl mv st H (upd _ cd (.lst ((cs ++ [t1, t2]).map V.ref ++ [V.ref t4]))) := w6.tr ((Sb4.sm u34).tr (Sb4.ofcd sb_upd))
        generalize upd _ cd (.lst ((cs ++ [t1, t2]).map V.ref ++ [V.ref t4])) = H8 at M8 w8
        refine nxt1 (D' := N3) d3 ?_
        clear d3
        refine ⟨_, rfl, .inl ⟨rfl, _, SqL.of M8.hmv⟩, _, rfl, _, rfl, _, _, rfl, rfl, le2, fun t5 h5 => ?_⟩
        have u5 := same_upd h5 (.tup [V.str "hold", .int (f1 - 4 - (g1 - 4))])
        have M9 := M8.same u5
        refine ⟨mv, _, .ref t5, rfl, rfl, M9.hmv, (by rw [List.length_map]; exact Nat.lt_of_le_of_lt v0 (by decide)), ?_⟩
        have MA := M9.moves (ts := [t5]) (es := [hd (f1 - 4 - (g1 - 4))]) ⟨upd_same, True.intro⟩ v1
        rw [List.append_assoc, List.append_assoc] at MA
        refine nxt1 (D' := Dr) er ?_
        subst e0
        exact q (.c0 (f1 - 4) (g1 - 4)) [t1, t2, t4] [k] [t5] [[V.str "push", .int (f1 - 4)], [V.str "push", .int (g1 - 4)], [V.str "call", .int 0, .ref l3]] _ ⟨bf.1, bf.2, bg.1, bg.2⟩ MA (fun B => ⟨rfl, fun j r e n => by
          match j, e with
          | 0, e => cases e; rfl
          | 1, e => cases e; rfl
          | 2, e => cases e; exact n.elim
          | j + 3, e => simp [Pt.bd] at e⟩) (w8.tr ((Sb4.sm u5).tr Sb4.umv))
      · refine ⟨_, rfl, rfl, _, rfl, ?_⟩
        refine ite2 (fun x3 => abs_seq fun N1 d1 => ?_) (fun x3 => abs_seq fun N1 d1 => ?_)
        · refine ⟨_, rfl, .inl ⟨rfl, _, SqL.of M3.code.hcd⟩, _, rfl, _, _, rfl, rfl, le2, fun t1 h1 => ⟨_, rfl, le2, fun t2 h2 => ⟨_, rfl, le2, fun t3 h3 => ⟨le3, fun l hl => ?_⟩⟩⟩⟩
          obtain ⟨g4, b4, M4⟩ := M3.ext3 h1 h2 h3 hl lc3
          have w4 := w3.tr (Sb4.ofcd (cl := cl) (mv := mv) (st := st) b4)
          refine ⟨cd, l, _, _, rfl, rfl, g4, upd_same, line1000 (by rw [List.length_map]; exact M3.code.le) (by show 3 ≤ 1000; decide), ?_⟩
          generalize upd _ cd (.lst (cs.map V.ref ++ [V.ref t1, V.ref t2, V.ref t3])) = H4 at M4 w4 b4
          refine nxt (D' := N1) d1 fun N2 d2 => ?_
          clear d1
          have e1 : ((cs ++ [t1, t2, t3]).map V.ref).length = cs.length + 3 := by rw [List.length_map, List.length_append]; rfl
          refine ⟨_, rfl, .inl ⟨rfl, _, SqL.of M4.hcl⟩, _, rfl, cd, _, rfl, .inl (SqL.of M4.code.hcd), ?_⟩
          rw [e1]
          refine ⟨le2, fun l2 h2 => ⟨le3, fun k hk => ?_⟩⟩
          obtain ⟨g6, M6, w6'⟩ := M4.calls (st := st) (n := cs.length + 3) (b := 7) (bb := 7) (xs := ["m", "n"]) h2 hk hks rfl rfl
          have w6 := w4.tr w6'
          refine ⟨cl, _, .ref k, rfl, rfl, g6, (by rw [List.length_map]; exact Nat.lt_of_le_of_lt kk (by decide)), ?_⟩
          generalize upd _ cl (.lst (ks.map V.ref ++ [V.ref k])) = H6 at M6 w6 w6'
          refine nxt (D' := N2) d2 fun N3 d3 => ?_
          clear d2
          refine ⟨_, rfl, .inl ⟨rfl, _, SqL.of M6.code.hcd⟩, Nat.zero_le _, fun l3 h3 => ⟨le3, fun t4 h4 => ⟨le1, fun t5 h5 => ⟨le1, fun t6 h6 => ⟨le3, fun b2 hb2 => ?_⟩⟩⟩⟩⟩
          have u3 := same_upd h3 (.lst [])
          obtain ⟨g8, b8, M8⟩ := (M6.same u3).ext3 h4 h5 h6 hb2 (by rw [List.length_append]; exact lc6)
          have w8 := w6.tr ((Sb4.sm u3).tr (Sb4.ofcd (cl := cl) (mv := mv) (st := st) b8))
          refine ⟨cd, b2, _, _, rfl, rfl, g8, upd_same, (by rw [e1]; exact line1000 lc3 (show 3 ≤ 1000 by decide)), ?_⟩
          generalize upd _ cd (.lst ((cs ++ [t1, t2, t3]).map V.ref ++ [V.ref t4, V.ref t5, V.ref t6])) = H8 at M8 w8 b8
          refine nxt1 (D' := N3) d3 ?_
          clear d3
          refine ⟨_, rfl, .inl ⟨rfl, _, SqL.of M8.hmv⟩, _, rfl, _, _, rfl, rfl, _, rfl, _, rfl, _, _, rfl, rfl, .inl ⟨by omega, by omega⟩, _, _, rfl, rfl, le2, fun t7 h7 => ?_⟩
          have u5 := same_upd h7 (.tup [V.str "hold", .int (30 + (g1 - 4) + (f1 - 4) * (g1 - 4))])
          have M9 := M8.same u5
          refine ⟨mv, _, .ref t7, rfl, rfl, M9.hmv, (by rw [List.length_map]; exact Nat.lt_of_le_of_lt v0 (by decide)), ?_⟩
          have MA := M9.moves (ts := [t7]) (es := [hd (30 + (g1 - 4) + (f1 - 4) * (g1 - 4))]) ⟨upd_same, True.intro⟩ v1
          rw [List.append_assoc, List.append_assoc] at MA
          refine nxt1 (D' := Dr) er ?_
          subst e0
          exact q (.c1 (f1 - 4) (g1 - 4)) [t1, t2, t3, t4, t5, t6] [k] [t7] [[V.str "push", V.int (30 + (g1 - 4))], [V.str "push", .int (f1 - 4)], [V.str "push", .int (g1 - 4)], [V.str "call", .int 0, .ref l3], [V.str "add"], [V.str "hold"]] _ ⟨bf.1, bf.2, bg.1, bg.2⟩ MA (fun B => ⟨rfl, fun j r e n => by
            match j, e with
            | 0, e => cases e; rfl
            | 1, e => cases e; rfl
            | 2, e => cases e; rfl
            | 3, e => cases e; exact n.elim
            | 4, e => cases e; rfl
            | 5, e => cases e; rfl
            | j + 6, e => simp [Pt.bd] at e⟩) (w8.tr ((Sb4.sm u5).tr Sb4.umv))
        · refine ⟨_, rfl, .inl ⟨rfl, _, SqL.of M3.code.hcd⟩, le2, fun t1 h1 => ⟨_, rfl, le2, fun t2 h2 => ⟨_, rfl, le2, fun t3 h3 => ⟨le3, fun l hl => ?_⟩⟩⟩⟩
          obtain ⟨g4, b4, M4⟩ := M3.ext3 h1 h2 h3 hl lc3
          have w4 := w3.tr (Sb4.ofcd (cl := cl) (mv := mv) (st := st) b4)
          refine ⟨cd, l, _, _, rfl, rfl, g4, upd_same, line1000 (by rw [List.length_map]; exact M3.code.le) (by show 3 ≤ 1000; decide), ?_⟩
          generalize upd _ cd (.lst (cs.map V.ref ++ [V.ref t1, V.ref t2, V.ref t3])) = H4 at M4 w4 b4
          refine nxt (D' := N1) d1 fun N2 d2 => ?_
          clear d1
          have e1 : ((cs ++ [t1, t2, t3]).map V.ref).length = cs.length + 3 := by rw [List.length_map, List.length_append]; rfl
          refine ⟨_, rfl, .inl ⟨rfl, _, SqL.of M4.hcl⟩, _, rfl, cd, _, rfl, .inl (SqL.of M4.code.hcd), ?_⟩
          rw [e1]
          refine ⟨Nat.zero_le _, fun l2 h2 => ⟨le3, fun k hk => ?_⟩⟩
          obtain ⟨g6, M6, w6'⟩ := M4.calls (st := st) (n := cs.length + 3) (b := 11) (bb := 11) (xs := []) h2 hk hks rfl rfl
          have w6 := w4.tr w6'
          refine ⟨cl, _, .ref k, rfl, rfl, g6, (by rw [List.length_map]; exact Nat.lt_of_le_of_lt kk (by decide)), ?_⟩
          generalize upd _ cl (.lst (ks.map V.ref ++ [V.ref k])) = H6 at M6 w6 w6'
          refine nxt (D' := N2) d2 fun N3 d3 => ?_
          clear d2
          refine ⟨_, rfl, .inl ⟨rfl, _, SqL.of M6.code.hcd⟩, Nat.zero_le _, fun l3 h3 => ⟨le3, fun t4 h4 => ⟨le1, fun t5 h5 => ⟨le1, fun t6 h6 => ⟨le3, fun b2 hb2 => ?_⟩⟩⟩⟩⟩
          have u3 := same_upd h3 (.lst [])
          obtain ⟨g8, b8, M8⟩ := (M6.same u3).ext3 h4 h5 h6 hb2 (by rw [List.length_append]; exact lc6)
          have w8 := w6.tr ((Sb4.sm u3).tr (Sb4.ofcd (cl := cl) (mv := mv) (st := st) b8))
          refine ⟨cd, b2, _, _, rfl, rfl, g8, upd_same, (by rw [e1]; exact line1000 lc3 (show 3 ≤ 1000 by decide)), ?_⟩
          generalize upd _ cd (.lst ((cs ++ [t1, t2, t3]).map V.ref ++ [V.ref t4, V.ref t5, V.ref t6])) = H8 at M8 w8 b8
          refine nxt1 (D' := N3) d3 ?_
          clear d3
          refine ⟨_, rfl, .inl ⟨rfl, _, SqL.of M8.hmv⟩, _, rfl, _, rfl, _, _, rfl, rfl, le2, fun t7 h7 => ⟨le2, fun t8 h8 => ⟨le2, fun b3 hb3 => ?_⟩⟩⟩
          have T3 : MvAt _ [t7, t8] [hd (f1 - 4 - (g1 - 4)), hd 3] := mv_new (mv_new (ts := []) (ms := []) True.intro h7) h8
          have u5 := (same_upd h7 (.tup (hd (f1 - 4 - (g1 - 4))))).trans ((same_upd h8 (.tup (hd 3))).trans (same_upd hb3 (.lst [V.ref t7, .ref t8])))
          have M9 := M8.same u5
          refine ⟨mv, b3, _, _, rfl, rfl, M9.hmv, upd_same, (by rw [List.length_map]; exact Nat.le_trans v2 (by decide)), ?_⟩
          have MA := M9.moves (ts := [t7, t8]) (T3.same (same_upd hb3 _)) v2
          rw [List.append_assoc, List.append_assoc] at MA
          refine nxt1 (D' := Dr) er ?_
          subst e0
          exact q (.c2 (f1 - 4) (g1 - 4)) [t1, t2, t3, t4, t5, t6] [k] [t7, t8] [[V.str "push", V.int 3], [V.str "push", .int (f1 - 4)], [V.str "push", .int (g1 - 4)], [V.str "call", .int 0, .ref l3], [V.str "hold"], [V.str "hold"]] _ ⟨bf.1, bf.2, bg.1, bg.2⟩ MA (fun B => ⟨rfl, fun j r e n => by
            match j, e with
            | 0, e => cases e; rfl
            | 1, e => cases e; rfl
            | 2, e => cases e; rfl
            | 3, e => cases e; exact n.elim
            | 4, e => cases e; rfl
            | 5, e => cases e; rfl
            | j + 6, e => simp [Pt.bd] at e⟩) (w8.tr ((Sb4.sm u5).tr Sb4.umv))
end
end Car

set_option maxHeartbeats 1000000
namespace Car
open PySem L2
/-! ### one part more at the end -/
theorem allP_snoc (B : Nat) (t : Pt) : ∀ (ts : List Pt) (p : Nat) (k : Int), allP B p k (ts ++ [t]) = allP B p k ts ++ t.all B (p + (allP B p k ts).length) (k + (ts.length : Int))
  | [], p, k => by
    show t.all B p k ++ [] = [] ++ t.all B (p + 0) (k + ((0 : Nat) : Int))
    rw [List.append_nil, List.nil_append, Nat.add_zero, show k + ((0 : Nat) : Int) = k by omega]
  | u :: ts, p, k => by
    show u.all B p k ++ allP B (p + (u.all B p k).length) (k + 1) (ts ++ [t]) = (u.all B p k ++ allP B (p + (u.all B p k).length) (k + 1) ts) ++ t.all B (p + (u.all B p k ++ allP B (p + (u.all B p k).length) (k + 1) ts).length) (k + ((ts.length + 1 : Nat) : Int))
    rw [allP_snoc B t ts, List.append_assoc, List.length_append, Nat.add_assoc, show k + ((ts.length + 1 : Nat) : Int) = k + 1 + (ts.length : Int) by omega]
theorem mvsP_snoc (t : Pt) : ∀ (ts : List Pt) (k : Int), mvsP k (ts ++ [t]) = mvsP k ts ++ (t.mvs ++ [hd (k + (ts.length : Int))])
  | [], k => by
    show (t.mvs ++ [hd k]) ++ [] = [] ++ (t.mvs ++ [hd (k + ((0 : Nat) : Int))])
    rw [List.append_nil, List.nil_append, show k + ((0 : Nat) : Int) = k by omega]
  | u :: ts, k => by
    show (u.mvs ++ [hd k]) ++ mvsP (k + 1) (ts ++ [t]) = ((u.mvs ++ [hd k]) ++ mvsP (k + 1) ts) ++ (t.mvs ++ [hd (k + ((ts.length + 1 : Nat) : Int))])
    rw [mvsP_snoc t ts, List.append_assoc _ (mvsP (k + 1) ts), show k + ((ts.length + 1 : Nat) : Int) = k + 1 + (ts.length : Int) by omega]
theorem cnP_snoc (t : Pt) : ∀ (ts : List Pt), cnP (ts ++ [t]) = cnP ts + t.cn
  | [] => by show t.cn + 0 = 0 + t.cn; omega
  | u :: ts => by
    show u.cn + cnP (ts ++ [t]) = u.cn + cnP ts + t.cn
    rw [cnP_snoc t ts]
    omega
/-- the calls of parts -/
noncomputable def clP : Nat → List Pt → List (Nat × Nat × List Str)
  | _, [] => []
  | p, t :: ts => t.cl (p + 2) ++ clP (p + (t.all 0 p 0).length) ts
theorem clP_snoc (t : Pt) : ∀ (ts : List Pt) (p : Nat), clP p (ts ++ [t]) = clP p ts ++ t.cl (p + (allP 0 p 0 ts).length + 2)
  | [], p => by
    show t.cl (p + 2) ++ [] = [] ++ t.cl (p + 0 + 2)
    rw [List.append_nil, List.nil_append, Nat.add_zero]
  | u :: ts, p => by
    show u.cl (p + 2) ++ clP (p + (u.all 0 p 0).length) (ts ++ [t]) = (u.cl (p + 2) ++ clP (p + (u.all 0 p 0).length) ts) ++ t.cl (p + (u.all 0 p 0 ++ allP 0 (p + (u.all 0 p 0).length) (0 + 1) ts).length + 2)
    rw [clP_snoc t ts, List.append_assoc, List.length_append, allP_len 0 0 ts (p + (u.all 0 p 0).length) (p + (u.all 0 p 0).length) (0 + 1) 0, Nat.add_assoc p]
theorem cl_le (t : Pt) (q : Nat) : (t.cl q).length ≤ 1 := by cases t <;> simp [Pt.cl]
theorem all_le (t : Pt) (ok : t.ok) (B p : Nat) (k : Int) : (t.all B p k).length ≤ 16 := by
  rw [Pt.all, List.length_append, List.length_append]
  cases t <;> simp [Pt.bd, lpRows]
theorem mvs_le (t : Pt) (ok : t.ok) : t.mvs.length ≤ 5 := by
  cases t with
  | loop m v => simp only [Pt.mvs, List.length_replicate]; exact ok.1
  | _ => simp [Pt.mvs]
theorem allP_le : ∀ (ts : List Pt) (B p : Nat) (k : Int), (∀ t ∈ ts, t.ok) → (allP B p k ts).length ≤ 16 * ts.length
  | [], _, _, _, _ => Nat.le_refl _
  | t :: ts, B, p, k, h => by
    have h1 := all_le t (h t List.mem_cons_self) B p k
    have h2 := allP_le ts B (p + (t.all B p k).length) (k + 1) fun x hx => h x (List.mem_cons_of_mem _ hx)
    rw [allP, List.length_append, List.length_cons]
    omega
theorem mvsP_le : ∀ (ts : List Pt) (k : Int), (∀ t ∈ ts, t.ok) → (mvsP k ts).length ≤ 6 * ts.length
  | [], _, _ => Nat.le_refl _
  | t :: ts, k, h => by
    have h1 := mvs_le t (h t List.mem_cons_self)
    have h2 := mvsP_le ts (k + 1) fun x hx => h x (List.mem_cons_of_mem _ hx)
    rw [mvsP]
    simp only [List.length_append, List.length_cons, List.length_nil]
    omega
theorem clP_le : ∀ (ts : List Pt) (p : Nat), (clP p ts).length ≤ ts.length
  | [], _ => Nat.le_refl _
  | t :: ts, p => by
    have h1 := cl_le t (p + 2)
    have h2 := clP_le ts (p + (t.all 0 p 0).length)
    rw [clP, List.length_append, List.length_cons]
    omega
/-! ### calls and rows -/
structure Lk (B p : Nat) (rows : List Rw) (CL : List (Nat × Nat × List Str)) : Prop where
  snd : ∀ c ∈ CL, ∃ j, c.1 = p + j ∧ rows[j]? = some (.call ((B + c.2.1 : Nat) : Int) c.2.2)
  cmp : ∀ j k xs, rows[j]? = some (.call k xs) → ∃ c ∈ CL, c.1 = p + j
theorem Lk.app {B p : Nat} {rs us : List Rw} {CL DL : List (Nat × Nat × List Str)} (h : Lk B p rs CL) (g : Lk B (p + rs.length) us DL) : Lk B p (rs ++ us) (CL ++ DL) := by
  refine ⟨fun c hc => ?_, fun j k xs e => ?_⟩
  · rcases List.mem_append.mp hc with hc | hc
    · obtain ⟨j, a, b⟩ := h.snd c hc
      exact ⟨j, a, by rw [List.getElem?_append_left (List.getElem?_eq_some_iff.mp b).1]; exact b⟩
    · obtain ⟨j, a, b⟩ := g.snd c hc
      exact ⟨rs.length + j, by rw [a, Nat.add_assoc], by rw [List.getElem?_append_right (by omega), Nat.add_sub_cancel_left]; exact b⟩
  · by_cases hj : j < rs.length
    · rw [List.getElem?_append_left hj] at e
      obtain ⟨c, a, b⟩ := h.cmp j k xs e
      exact ⟨c, List.mem_append_left _ a, b⟩
    · rw [List.getElem?_append_right (by omega)] at e
      obtain ⟨c, a, b⟩ := g.cmp _ k xs e
      exact ⟨c, List.mem_append_right _ a, by omega⟩
theorem Lk.non {B p : Nat} {rs : List Rw} (h : ∀ r ∈ rs, noCall r) : Lk B p rs [] := ⟨fun _ hc => (List.not_mem_nil hc).elim, fun j k xs e => (h _ (List.mem_of_getElem? e)).elim⟩
theorem Lk.one {B p s : Nat} {xs : List Str} : Lk B p [.call ((B + s : Nat) : Int) xs] [(p, s, xs)] := by
  refine ⟨fun c hc => ?_, fun j k ys e => ?_⟩
  · rw [show c = (p, s, xs) by simpa using hc]
    exact ⟨0, rfl, rfl⟩
  · cases j with
    | zero => exact ⟨_, List.mem_cons_self, rfl⟩
    | succ j => cases e
theorem lk_bd (B q : Nat) (t : Pt) : Lk B q (t.bd B q) (t.cl q) := by
  cases t with
  | loop m v => exact Lk.non (by simp [Pt.bd, lpRows, noCall])
  | choice w a b => exact Lk.non (by simp [Pt.bd, noCall])
  | c0 a b => exact (Lk.non (rs := [.push a, .push b]) (by simp [noCall])).app (Lk.one (s := 0))
  | c1 a b => exact (Lk.non (rs := [.push (30 + b), .push a, .push b]) (by simp [noCall])).app ((Lk.one (s := 7)).app (Lk.non (by simp [noCall])))
  | c2 a b => exact (Lk.non (rs := [.push 3, .push a, .push b]) (by simp [noCall])).app ((Lk.one (s := 11)).app (Lk.non (by simp [noCall])))
theorem lk_all (B p : Nat) (k : Int) (t : Pt) : Lk B p (t.all B p k) (t.cl (p + 2)) := by
  have h := (Lk.non (B := B) (p := p) (rs := [.push k, .store "n"]) (by simp [noCall])).app ((lk_bd B (p + 2) t).app (Lk.non (rs := [.load "n", .hold]) (by simp [noCall])))
  rw [List.nil_append, List.append_nil] at h
  exact h
theorem lk_allP (B : Nat) : ∀ (ts : List Pt) (p : Nat) (k : Int), Lk B p (allP B p k ts) (clP p ts)
  | [], p, k => Lk.non (fun _ h => (List.not_mem_nil h).elim)
  | t :: ts, p, k => by
    have h := (lk_all B p k t).app (lk_allP B ts (p + (t.all B p k).length) (k + 1))
    rw [all_len B 0 p p k 0] at h
    rw [allP, clP, all_len B 0 p p k 0]
    exact h
theorem lst_no (q : Nat) (om : Option Nat) : ∀ r ∈ lst18 q om, noCall r := by
  cases om <;> simp [lst18, lpRows, noCall]
/-- the code without the subs -/
noncomputable def pre18 (B : Nat) (ts : List Pt) (om : Option Nat) : List Rw := [.jump 1] ++ (allP B 1 0 ts ++ (lst18 (1 + (allP B 1 0 ts).length) om ++ [.stop]))
theorem code_pre (B : Nat) (ts : List Pt) (om : Option Nat) : code18 B ts om = pre18 B ts om ++ sub18 := by
  rw [code18, pre18, List.append_assoc, List.append_assoc, List.append_assoc]
theorem pre_len (B : Nat) (ts : List Pt) (om : Option Nat) : (pre18 B ts om).length = B18 ts om := by
  rw [pre18, B18, List.length_append, List.length_append, List.length_append, allP_len B 0 ts 1 1 0 0, lst_len _ 0]
  show 1 + (_ + (_ + 1)) = _
  omega
theorem lk_pre (B : Nat) (ts : List Pt) (om : Option Nat) : Lk B 0 (pre18 B ts om) (clP 1 ts) := by
  have h := (Lk.non (B := B) (p := 0) (rs := [.jump 1]) (by simp [noCall])).app ((lk_allP B ts 1 0).app ((Lk.non (lst_no (1 + (allP B 1 0 ts).length) om)).app (Lk.non (rs := [.stop]) (by simp [noCall]))))
  rw [List.nil_append, List.append_nil, List.append_nil] at h
  exact h
/-! ### the code's rows on the heap -/
noncomputable def RowIs (H : Hp) (cd : Addr) (e : List V) (r : Rw) : Prop := (noCall r → e = cV r) ∧ ∀ k xs, r = .call k xs → ∃ l, e = [.str "call", .int k, .ref l] ∧ H l = some (.lst (xs.map V.str)) ∧ l ≠ cd
theorem strs_rp18 {K : PySem.W.Frag} {H : Hp} : ∀ xs : List Str, Rps K H (xs.map V.str) (xs.map PyData.str)
  | [] => .nil
  | x :: xs => .cons (.str x) (strs_rp18 xs)
theorem rowIs_rp {K : PySem.W.Frag} {H : Hp} {cd t : Addr} {e : List V} {r : Rw} (h : H t = some (.tup e)) (g : RowIs H cd e r) : Rp K H (.ref t) r.dat := by
  cases r with
  | call k xs =>
    obtain ⟨l, rfl, a, _⟩ := g.2 k xs rfl
    exact .tup (SqT.of h) (.cons (.str _) (.cons (.int _) (.cons (.lst (SqL.of a) (strs_rp18 xs)) .nil)))
  | push n => rw [g.1 True.intro] at h; exact .tup (SqT.of h) (.cons (.str _) (.cons (.int _) .nil))
  | load x => rw [g.1 True.intro] at h; exact .tup (SqT.of h) (.cons (.str _) (.cons (.str _) .nil))
  | store x => rw [g.1 True.intro] at h; exact .tup (SqT.of h) (.cons (.str _) (.cons (.str _) .nil))
  | join s => rw [g.1 True.intro] at h; exact .tup (SqT.of h) (.cons (.str _) .nil)
  | comp s => rw [g.1 True.intro] at h; exact .tup (SqT.of h) (.cons (.str _) .nil)
  | count => rw [g.1 True.intro] at h; exact .tup (SqT.of h) (.cons (.str _) .nil)
  | deeper => rw [g.1 True.intro] at h; exact .tup (SqT.of h) (.cons (.str _) .nil)
  | hold => rw [g.1 True.intro] at h; exact .tup (SqT.of h) (.cons (.str _) .nil)
  | move m a b => rw [g.1 True.intro] at h; exact .tup (SqT.of h) (.cons (.str _) (.cons (.str _) (.cons (.str _) (.cons (.bl _) .nil))))
  | stop => rw [g.1 True.intro] at h; exact .tup (SqT.of h) (.cons (.str _) .nil)
  | jump k => rw [g.1 True.intro] at h; exact .tup (SqT.of h) (.cons (.str _) (.cons (.int _) .nil))
  | «unless» k => rw [g.1 True.intro] at h; exact .tup (SqT.of h) (.cons (.str _) (.cons (.int _) .nil))
  | back => rw [g.1 True.intro] at h; exact .tup (SqT.of h) (.cons (.str _) .nil)
theorem rows18_rp {K : PySem.W.Frag} {H : Hp} {cd : Addr} : ∀ {cs : List Addr} {es : List (List V)} {rows : List Rw}, MvAt H cs es → es.length = rows.length → (∀ (p : Nat) (r : Rw), rows[p]? = some r → ∃ e, es[p]? = some e ∧ RowIs H cd e r) → Rps K H (cs.map V.ref) (rows.map Rw.dat)
  | [], [], [], _, _, _ => .nil
  | t :: cs, e :: es, r :: rows, ⟨a, b⟩, hl, h => by
    obtain ⟨e', x, y⟩ := h 0 r rfl
    cases x
    exact .cons (rowIs_rp a y) (rows18_rp b (by simpa using hl) fun p r hp => h (p + 1) r hp)
  | [], _ :: _, _, h, _, _ => h.elim
  | _ :: _, [], _, h, _, _ => h.elim
  | [], [], _ :: _, _, hl, _ => by cases hl
  | _ :: _, _ :: _, [], _, hl, _ => by cases hl
/-- the first j calls have been put in -/
structure Pat (H : Hp) (cd : Addr) (j : Nat) (CL : List (Nat × Nat × List Str)) (rows : List Rw) (es : List (List V)) : Prop where
  len : es.length = rows.length
  no : ∀ (p : Nat) (r : Rw), rows[p]? = some r → noCall r → es[p]? = some (cV r)
  yes : ∀ (p : Nat) (k : Int) (xs : List Str), rows[p]? = some (.call k xs) → (∃ c ∈ CL.take j, c.1 = p) → ∃ l, es[p]? = some [.str "call", .int k, .ref l] ∧ H l = some (.lst (xs.map V.str)) ∧ l ≠ cd
theorem Pat.zero {H : Hp} {cd : Addr} {CL : List (Nat × Nat × List Str)} {rows : List Rw} {es : List (List V)} (h : Pre es rows) : Pat H cd 0 CL rows es :=
  ⟨h.1, fun p r e n => h.2 p r e n, fun p k xs _ ⟨c, hc, _⟩ => by rw [List.take_zero] at hc; exact (List.not_mem_nil hc).elim⟩
theorem Pat.step {H H' : Hp} {cd l : Addr} {j B : Nat} {CL : List (Nat × Nat × List Str)} {rows : List Rw} {es : List (List V)} {c : Nat × Nat × List Str} (M : Pat H cd j CL rows es) (hc : CL[j]? = some c) (hr : rows[c.1]? = some (.call ((B + c.2.1 : Nat) : Int) c.2.2))
    (keep : ∀ x o, x ≠ cd → H x = some o → H' x = some o) (hl : H' l = some (.lst (c.2.2.map V.str))) (n : l ≠ cd) : Pat H' cd (j + 1) CL rows (es.set c.1 [.str "call", .int ((B + c.2.1 : Nat) : Int), .ref l]) := by
  refine ⟨by rw [List.length_set]; exact M.len, fun p r e nc => ?_, fun p k xs e hx => ?_⟩
  · by_cases z : c.1 = p
    · subst z
      rw [hr] at e
      cases e
      exact nc.elim
    · rw [List.getElem?_set_ne z]
      exact M.no p r e nc
  · by_cases z : c.1 = p
    · subst z
      rw [hr] at e
      cases e
      exact ⟨l, by rw [List.getElem?_set_self (by rw [M.len]; exact (List.getElem?_eq_some_iff.mp hr).1)], hl, n⟩
    · rw [List.getElem?_set_ne z]
      obtain ⟨c', hc', e'⟩ := hx
      rw [List.take_add_one, hc] at hc'
      rcases List.mem_append.mp hc' with hc' | hc'
      · obtain ⟨l', a, b, d⟩ := M.yes p k xs e ⟨c', hc', e'⟩
        exact ⟨l', a, keep _ _ d b, d⟩
      · rw [show c' = c by simpa using hc'] at e'
        exact (z e').elim
theorem Pat.rows {H : Hp} {cd : Addr} {B : Nat} {CL : List (Nat × Nat × List Str)} {rows : List Rw} {es : List (List V)} (M : Pat H cd CL.length CL rows es) (L : Lk B 0 rows CL) : ∀ (p : Nat) (r : Rw), rows[p]? = some r → ∃ e, es[p]? = some e ∧ RowIs H cd e r := by
  intro p r hp
  by_cases hn : noCall r
  · exact ⟨_, M.no p r hp hn, fun _ => rfl, fun k xs e => by subst e; exact hn.elim⟩
  · obtain ⟨k, xs, rfl⟩ : ∃ k xs, r = .call k xs := by
      cases r with
      | call k xs => exact ⟨k, xs, rfl⟩
      | _ => exact (hn True.intro).elim
    obtain ⟨c, hc, e⟩ := L.cmp p k xs hp
    obtain ⟨l, a, b, d⟩ := M.yes p k xs hp ⟨c, by rw [List.take_length]; exact hc, by omega⟩
    exact ⟨_, a, fun h => h.elim, fun k' xs' e => by cases e; exact ⟨l, rfl, b, d⟩⟩
theorem RowIs.keep {H H' : Hp} {cd : Addr} {e : List V} {r : Rw} (h : RowIs H cd e r) (keep : ∀ x o, x ≠ cd → H x = some o → H' x = some o) : RowIs H' cd e r :=
  ⟨h.1, fun k xs z => by obtain ⟨l, a, b, d⟩ := h.2 k xs z; exact ⟨l, a, keep _ _ d b, d⟩⟩
theorem MvAt.set {H : Hp} {t : Addr} {m : List V} (h : H t = some (.tup m)) : ∀ {ts : List Addr} {ms : List (List V)} (j : Nat), MvAt H ts ms → MvAt H (ts.set j t) (ms.set j m)
  | [], [], _, M => M
  | _ :: _, _ :: _, 0, M => ⟨h, M.2⟩
  | _ :: _, _ :: _, j + 1, M => ⟨M.1, MvAt.set h j M.2⟩
  | [], _ :: _, _, M => M.elim
  | _ :: _, [], _, M => M.elim
theorem ClAt.len {H : Hp} {cd cl mv : Addr} : ∀ {ks : List Addr} {CL : List (Nat × Nat × List Str)}, ClAt H cd cl mv ks CL → ks.length = CL.length
  | [], [], _ => rfl
  | _ :: _, _ :: _, h => by rw [List.length_cons, List.length_cons, ClAt.len h.2]
  | [], _ :: _, h => h.elim
  | _ :: _, [], h => h.elim
theorem ClAt.get {H : Hp} {cd cl mv : Addr} : ∀ {ks : List Addr} {CL : List (Nat × Nat × List Str)} {j : Nat} {k : Addr}, ClAt H cd cl mv ks CL → ks[j]? = some k → ∃ c l, CL[j]? = some c ∧ H k = some (.tup [.int (c.1 : Int), .int (c.2.1 : Int), .ref l]) ∧ H l = some (.lst (c.2.2.map V.str)) ∧ l ≠ cd
  | k :: _, c :: _, 0, _, ⟨⟨l, a, b, n1, _, _⟩, _⟩, e => by cases e; exact ⟨c, l, rfl, a, b, n1⟩
  | _ :: _, _ :: _, j + 1, k, h, e => by
    obtain ⟨c, l, x⟩ := ClAt.get (j := j) (k := k) h.2 (by simpa using e)
    exact ⟨c, l, x⟩
  | [], [], _, _, _, e => by cases e
  | [], _ :: _, _, _, h, _ => h.elim
  | _ :: _, [], _, _, h, _ => h.elim
end Car

set_option maxHeartbeats 1000000
namespace L2
open PySem PySem.Spec PyProof.Rows
theorem for_enum {K : PySem.W.Frag} {a : Addr} {xs : List V} {g : TG} {tb : TS} {D : Ends} {σ : St} {H : Hp} (Pv : Nat → St → Hp → Prop) (h0 : Pv 0 σ H) (hl : ∀ i σ H, i ≤ xs.length → Pv i σ H → SqL K H a xs)
    (hs : ∀ i x σ H, xs[i]? = some x → Pv i σ H → ∀ T, H T = none → g (.ref T) σ (upd H T (.tup [.int i, x])) fun σ2 H2 => tb { D with nx := Pv (i + 1), ct := Pv (i + 1), bk := D.nx } σ2 H2) (hd : ∀ σ H, Pv xs.length σ H → D.nx σ H) :
    ∃ W : Nat → Nat → St → Hp → Prop, (∃ m, W 0 m σ H) ∧ ∀ i m σ H, W i m σ H →
      ((Ite K a).stop i H ∧ D.nx σ H) ∨ ((Ite K a).go i H ∧ ∃ N : St → Hp → Prop, (∀ σ' H', N σ' H' → ∃ m', m' < m ∧ W (i + 1) m' σ' H') ∧ ∀ x H', (Ite K a).yld i H x H' → g x σ H' fun σ2 H2 => tb { D with nx := N, ct := N, bk := D.nx } σ2 H2) := by
  refine ⟨fun i m σ H => m = xs.length - i ∧ i ≤ xs.length ∧ Pv i σ H, ⟨xs.length, by simp, Nat.zero_le _, h0⟩, ?_⟩
  rintro i m σ H ⟨rfl, hi, p⟩
  have q := hl i σ H hi p
  by_cases hlt : i < xs.length
  · refine .inr ⟨⟨xs, xs[i], q, by simp [hlt]⟩, Pv (i + 1), fun σ' H' p' => ⟨xs.length - (i + 1), by omega, rfl, hlt, p'⟩, fun x H' y => ?_⟩
    obtain ⟨T, rfl, hT, y⟩ := y
    rw [y xs xs[i] q (by simp [hlt])]
    exact hs i xs[i] σ _ (by simp [hlt]) p T hT
  · have e : i = xs.length := by omega
    subst e
    exact .inl ⟨⟨xs, q, rfl⟩, hd σ H p⟩
end L2
namespace Car
open PySem L2
noncomputable def mvD (m : List V) : PyData := .tuple (m.map sD)
noncomputable def resD (r : List (List V) × PyData) : PyData := .tuple [.list (r.1.map mvD), r.2]
section
variable {K : PySem.W.Frag} {H : Hp}
theorem flat_rp : ∀ {m : List V}, (∀ v ∈ m, isS v) → Rps K H m (m.map sD)
  | [], _ => .nil
  | v :: m, h => by
    have hv := h v List.mem_cons_self
    refine .cons ?_ (flat_rp fun y hy => h y (List.mem_cons_of_mem _ hy))
    cases v with
    | int i => exact .int i
    | str s => exact .str s
    | bl b => exact .bl b
    | _ => exact hv.elim
theorem mvs_rp : ∀ {ts : List Addr} {ms : List (List V)}, (∀ m ∈ ms, ∀ v ∈ m, isS v) → MvAt H ts ms → Rps K H (ts.map V.ref) (ms.map mvD)
  | [], [], _, _ => .nil
  | t :: ts, m :: ms, h, ⟨a, b⟩ => .cons (.tup (SqT.of a) (flat_rp (h m List.mem_cons_self))) (mvs_rp (fun x hx => h x (List.mem_cons_of_mem _ hx)) b)
  | [], _ :: _, _, h => h.elim
  | _ :: _, [], _, h => h.elim
theorem hd_flat {ms : List (List V)} (h : ∀ m ∈ ms, ∃ i : Int, m = hd i) : ∀ m ∈ ms, ∀ v ∈ m, isS v := fun m hm v hv => by
  obtain ⟨i, rfl⟩ := h m hm
  rcases List.mem_cons.mp hv with rfl | hv
  · exact True.intro
  · rw [show v = .int i by simpa using hv]; exact True.intro
end
theorem mvs_hd (t : Pt) : ∀ m ∈ t.mvs, ∃ i : Int, m = hd i := by
  intro m hm
  cases t with
  | loop k v => exact ⟨v, (List.mem_replicate.mp hm).2⟩
  | choice w a b => exact ⟨_, by simpa [Pt.mvs] using hm⟩
  | c0 a b => exact ⟨_, by simpa [Pt.mvs] using hm⟩
  | c1 a b => exact ⟨_, by simpa [Pt.mvs] using hm⟩
  | c2 a b =>
    rcases List.mem_cons.mp hm with rfl | hm
    · exact ⟨_, rfl⟩
    · exact ⟨_, by simpa using hm⟩
theorem mvsP_hd : ∀ (ts : List Pt) (k : Int), ∀ m ∈ mvsP k ts, ∃ i : Int, m = hd i
  | [], _, _, h => (List.not_mem_nil h).elim
  | t :: ts, k, m, h => by
    rw [mvsP] at h
    rcases List.mem_append.mp h with h | h
    · rcases List.mem_append.mp h with h | h
      · exact mvs_hd t m h
      · exact ⟨k, by simpa using h⟩
    · exact mvsP_hd ts (k + 1) m h
theorem due_hd (ts : List Pt) (om : Option Nat) : ∀ m ∈ (due18 ts om).1, ∃ i : Int, m = hd i := by
  intro m hm
  cases om with
  | none => exact mvsP_hd ts 0 m hm
  | some k =>
    rcases List.mem_append.mp hm with hm | hm
    · exact mvsP_hd ts 0 m hm
    · exact ⟨5, (List.mem_replicate.mp hm).2⟩
theorem cut_ints (ns : List Int) (lo hi : Option Int) : ∃ ms : List Int, cutV (ns.map V.int) lo hi = ms.map V.int := by
  unfold cutV
  rw [← List.map_drop, ← List.map_take]
  exact ⟨_, rfl⟩
theorem cut24 (xs : List V) : (cutV xs (some 1) (some 25)).length ≤ 24 := by
  unfold cutV
  rw [show HT.sIx xs.length xs.length (some 25) = min 25 xs.length from HT.sIx_nat _ _ 25, show HT.sIx xs.length 0 (some 1) = min 1 xs.length from HT.sIx_nat _ _ 1, List.length_take]
  omega
theorem ixN_nat {n j : Nat} (h : j < n) : ixN n (j : Int) = some j := by
  unfold ixN
  rw [if_pos (by omega), if_pos (by omega)]
  simp
theorem same_ne {H : Hp} {a b : Addr} {o : HO} (h : H a = some o) (g : H b = none) : b ≠ a := fun z => by rw [z, h] at g; cases g
theorem lek {a n m k : Nat} (h : a ≤ n) (e : n + k ≤ m) : a + k ≤ m := Nat.le_trans (Nat.add_le_add_right h k) e
theorem n_q1 {a i : Nat} (h : a ≤ 1 + 16 * i) (hi : i < 24) : a ≤ 369 := by omega
theorem n_q4 {a i : Nat} (h : a ≤ 6 * i) (hi : i < 24) : a ≤ 138 := by omega
theorem n_q7 {a i : Nat} (h : a ≤ 1 + 16 * i) (hi : i ≤ 24) : a ≤ 385 := by omega
theorem n_q9 {a i : Nat} (h : a ≤ 6 * i) (hi : i ≤ 24) : a ≤ 144 := by omega
theorem n_qc {a i : Nat} (h : a ≤ 5 * i) (hi : i ≤ 24) : a ≤ 120 := by omega
theorem n_c3 {x a b : Nat} (e : x = a + 2 + b) (h : 2 + (b + 2) ≤ 16) : x ≤ a + 14 := by omega
theorem n_c4 {a b i : Nat} (h : a ≤ 6 * i) (g : b ≤ 5) (hi : i < 24) : a + b ≤ 143 := by omega
theorem n_m {c : Nat} (h : c ≤ 120) (fi : Int) : ∃ m : Nat, 1999 - (c : Int) + fi / 6 % 4 = (m : Int) ∧ m ≤ 2002 := ⟨(1999 - (c : Int) + fi / 6 % 4).toNat, by omega, by omega⟩
theorem n_z {c : Nat} (h : c ≤ 120) (m : Nat) : (if 2000 - (c : Int) < (m : Int) then 2000 - (c : Int) else (m : Int)) = ((min m (2000 - c) : Nat) : Int) := by split <;> omega
theorem n_63 {z : Nat} (h : z ≤ 2002) : -(2 ^ 63) ≤ (z : Int) ∧ (z : Int) < 2 ^ 63 := by omega
theorem n_vz {a z : Nat} (h : a ≤ 144) (g : z ≤ 2002) : a + z ≤ 3000 := by omega
theorem n_gt {c m : Nat} : (2000 : Int) < (c : Int) + (m : Int) ↔ 2000 < c + m := by omega
end Car
namespace Car
open PySem L2
section
variable {P : Program} {w : World} {K : PySem.W.Frag} {mg : Str → Option Value} {base : Heap} {f : Addr} {fd' : FuncData}
noncomputable def spCode (K : PySem.W.Frag) : Sp := fun vs H Q _ => ∃ (L : Addr) (ns : List Int), vs = [.ref L] ∧ SqL K H L (ns.map V.int) ∧
  ∀ (ts : List Pt) (om : Option Nat) (r cd : Addr) (dv : V) (H' : Hp), (∀ t ∈ ts, t.ok) → ts.length ≤ 24 → (∀ m, om = some m → m ≤ 2010) → H' r = some (.lst [.ref cd, dv]) → Rp K H' (.ref cd) (.list ((code18 (B18 ts om) ts om).map Rw.dat)) → Rp K H' dv (resD (due18 ts om)) → Q (.ref r) H'
/-- what holds at each turn of the first loop -/
structure Lp (H : Hp) (cd cl mv l0 : Addr) (xs : List V) (cs ks vs : List Addr) (es : List (List V)) (ts : List Pt) : Prop where
  pin : Pin H cd cl mv cs ks vs es (clP 1 ts) (mvsP 0 ts)
  pre : ∀ B, Pre es ([.jump 1] ++ allP B 1 0 ts)
  ok : ∀ t ∈ ts, t.ok
  l0 : H l0 = some (.lst xs)
theorem Lp.len {H : Hp} {cd cl mv l0 : Addr} {xs : List V} {cs ks vs : List Addr} {es : List (List V)} {ts : List Pt} (M : Lp H cd cl mv l0 xs cs ks vs es ts) : cs.length = 1 + (allP 0 1 0 ts).length := by
  rw [M.pin.code.mv.len, (M.pre 0).1, List.length_append]
  rfl
theorem Lp.le {H : Hp} {cd cl mv l0 : Addr} {xs : List V} {cs ks vs : List Addr} {es : List (List V)} {ts : List Pt} (M : Lp H cd cl mv l0 xs cs ks vs es ts) : cs.length ≤ 1 + 16 * ts.length ∧ ks.length ≤ ts.length ∧ vs.length ≤ 6 * ts.length := by
  have h1 := M.len
  have h2 := allP_le ts 0 1 0 M.ok
  have h3 := clP_le ts 1
  have h4 := mvsP_le ts 0 M.ok
  rw [← M.pin.cla.len] at h3
  rw [← M.pin.mva.len] at h4
  exact ⟨by omega, h3, h4⟩
theorem scCode : FnScope ["script", "first", "code", "calls", "moves", "counted", "k", "cell", "end", "many", "place", "behind", "names"] ["script"] (defScope sCode) := ⟨rfl, rfl, rfl, by decide +kernel, rfl, by decide +kernel, by decide +kernel⟩
set_option maxHeartbeats 4000000 in
theorem ok_code (T : LawT mg) (hsu : mg "sum" = none) (hen : mg "enumerate" = none) (FL : Fn P w K mg base "_law_loop" 1 ["code", "many", "value"] spLoop) (FP : Fn P w K mg base "_law_part" 2 ["code", "calls", "moves", "state"] spPart)
    (F : Fun K "_law_code" "_law_code" sCode f fd') : FnOk P w K mg base (CX1 P w) 3 f fd' ["script"] (spCode K) := by
  have nd := scCode.nd
  refine F.ok1 scCode (fun vs H Q E h => ?_) (fun cdv A outer s H vs Q E hr h => ?_)
  · obtain ⟨L, ns, rfl, _⟩ := h
    rfl
  obtain ⟨L, ns, rfl, hL, q⟩ := h
  have hr1 : Room 1 _ := hr.mono (by decide)
  have hr2 : Room 2 _ := hr.mono (by decide)
  refine ⟨_, (pss_cons (ps_set (i := 1) nd rfl (Or.inl rfl) (pe_callB (call_sumW rfl) rfl hsu bt_sum (pa_cons (pe_slice sl_list (pv 0) po_none (po_some pe_int)) pa_nil)))
    (pss_cons (ps_set (i := 2) nd rfl (Or.inl rfl) (pe_lst (pa_cons (pe_tup (pa_cons pe_str (pa_cons pe_int pa_nil))) pa_nil)))
    (pss_cons (ps_set (i := 3) nd rfl (Or.inl rfl) (pe_lst pa_nil))
    (pss_cons (ps_set (i := 4) nd rfl (Or.inl rfl) (pe_lst pa_nil))
    (pss_cons (ps_set (i := 5) nd rfl (Or.inl rfl) pe_int)
    (pss_cons (ps_for own1 rfl (pi_enum rfl hen (pa_cons (pe_slice sl_list (pv 0) (po_some pe_int) (po_some pe_int)) pa_nil)) (pg_tup rfl (pgs_cons (pg_name (i := 6) nd rfl (Or.inl rfl)) (pgs_cons (pg_name (i := 7) nd rfl (Or.inl rfl)) pgs_nil))) (pss_cons (ps_expr (pe_bm PySem.F.plainAttrs_list PySem.F.slot_list_extend PySem.F.type_list_extend mt_extend (pv 2) (pa_cons (pe_lst (pa_cons (pe_tup (pa_cons pe_str (pa_cons (pv 6) pa_nil))) (pa_cons (pe_tup (pa_cons pe_str (pa_cons pe_str pa_nil))) pa_nil))) pa_nil)))
    (pss_cons (ps_set (i := 5) nd rfl (Or.inl rfl) (pe_op op_add (pv 5) (pf_call FP hr2 rfl (pass1 (E := E)) (pa_cons (pv 2) (pa_cons (pv 3) (pa_cons (pv 4) (pa_cons (pe_lst (pa_cons (pv 7) (pa_cons (pe_op op_mod (pv 1) pe_int) pa_nil))) pa_nil)))))))
    (pss_cons (ps_expr (pe_bm PySem.F.plainAttrs_list PySem.F.slot_list_extend PySem.F.type_list_extend mt_extend (pv 2) (pa_cons (pe_lst (pa_cons (pe_tup (pa_cons pe_str (pa_cons pe_str pa_nil))) (pa_cons (pe_tup (pa_cons pe_str pa_nil)) pa_nil))) pa_nil)))
    (pss_one (ps_expr (pe_bm PySem.F.plainAttrs_list PySem.F.slot_list_append PySem.F.type_list_append mt_append (pv 4) (pa_cons (pe_tup (pa_cons pe_str (pa_cons (pv 6) pa_nil))) pa_nil))))))))
    (pss_cons (ps_set (i := 8) nd rfl (Or.inl rfl) (pe_tup (pa_cons pe_str pa_nil)))
    (pss_mid (ps_if (pt_cmpR op_eq (pe_op op_mod (pe_op op_fdiv (pv 1) pe_int) pe_int) pe_int (nomark _)) (pss_cons (ps_set (i := 9) nd rfl (Or.inl rfl) (pe_op op_add (pe_op op_sub pe_int (pv 5)) (pe_op op_mod (pe_op op_fdiv (pv 1) pe_int) pe_int)))
    (pss_cons (ps_expr (pf_call FL hr1 rfl (pass1 (E := E)) (pa_cons (pv 2) (pa_cons (pv 9) (pa_cons pe_int pa_nil)))))
    (pss_cons (ps_expr (pe_bm PySem.F.plainAttrs_list PySem.F.slot_list_extend PySem.F.type_list_extend mt_extend (pv 4) (pa_cons (pe_op op_rep (pe_lst (pa_cons (pe_tup (pa_cons pe_str (pa_cons pe_int pa_nil))) pa_nil)) (pe_callB (call_min2 rfl) rfl T.min bt_min (pa_cons (pv 9) (pa_cons (pe_op op_sub pe_int (pv 5)) pa_nil)))) pa_nil)))
    (pss_one (ps_if (pt_cmpR op_gt (pe_op op_add (pv 5) (pv 9)) pe_int (nomark _)) (pss_one (ps_set (i := 8) nd rfl (Or.inl rfl) (pe_tup (pa_cons pe_str pa_nil)))) pss_nil))))) pss_nil)
    (pss_cons (ps_expr (pe_bm PySem.F.plainAttrs_list PySem.F.slot_list_append PySem.F.type_list_append mt_append (pv 2) (pa_cons (pe_tup (pa_cons pe_str pa_nil)) pa_nil)))
    (pss_cons (ps_for own1 rfl (pi_list (pv 3)) (pg_tup rfl (pgs_cons (pg_name (i := 10) nd rfl (Or.inl rfl)) (pgs_cons (pg_name (i := 11) nd rfl (Or.inl rfl)) (pgs_cons (pg_name (i := 12) nd rfl (Or.inl rfl)) pgs_nil)))) (pss_one (ps_asg (pe_tup (pa_cons pe_str (pa_cons (pe_op op_add (pe_callB call_len_seq rfl T.len PySem.boot_len (pa_cons (pv 2) pa_nil)) (pv 11)) (pa_cons (pv 12) pa_nil)))) (pg_sub (pv 2) (pv 10) set_list))))
    (pss_cons (ps_expr (pe_bm PySem.F.plainAttrs_list PySem.F.slot_list_extend PySem.F.type_list_extend mt_extend (pv 2) (pa_cons (pe_lst (pa_cons (pe_tup (pa_cons pe_str (pa_cons pe_str pa_nil))) (pa_cons (pe_tup (pa_cons pe_str (pa_cons pe_str pa_nil))) (pa_cons (pe_tup (pa_cons pe_str pa_nil)) (pa_cons (pe_tup (pa_cons pe_str pa_nil)) (pa_cons (pe_tup (pa_cons pe_str (pa_cons pe_int pa_nil))) (pa_cons (pe_tup (pa_cons pe_str (pa_cons pe_str pa_nil))) (pa_cons (pe_tup (pa_cons pe_str pa_nil)) pa_nil)))))))) pa_nil)))
    (pss_cons (ps_expr (pe_bm PySem.F.plainAttrs_list PySem.F.slot_list_extend PySem.F.type_list_extend mt_extend (pv 2) (pa_cons (pe_lst (pa_cons (pe_tup (pa_cons pe_str (pa_cons pe_str pa_nil))) (pa_cons (pe_tup (pa_cons pe_str (pa_cons pe_str pa_nil))) (pa_cons (pe_tup (pa_cons pe_str pa_nil)) (pa_cons (pe_tup (pa_cons pe_str pa_nil)) (pa_cons (pe_tup (pa_cons pe_str pa_nil)) (pa_cons (pe_tup (pa_cons pe_str pa_nil)) pa_nil))))))) pa_nil)))
    (pss_one (ps_ret (pe_lst (pa_cons (pv 2) (pa_cons (pe_tup (pa_cons (pv 4) (pa_cons (pv 8) pa_nil))) pa_nil))))))))))))))))), ?_⟩
  obtain ⟨ks0, hks0⟩ := cut_ints ns none (some 1)
  refine abs_D fun D0 e0 => abs_seq fun D1 e1 => ?_
  refine ⟨_, rfl, _, rfl, L, _, rfl, hL, fun l1 hl1 => ?_⟩
  rw [hks0]
  refine ⟨l1, ks0, rfl, SqL.of upd_same, fun fi => nxt (D' := D1) e1 fun D2 e2 => ⟨le2, fun t0 h0 => ⟨le1, fun cd hcd => nxt (D' := D2) e2 fun D3 e3' => ⟨Nat.zero_le _, fun cl hcl => nxt (D' := D3) e3' fun D4 e4' => ⟨Nat.zero_le _, fun mv hmv => nxt (D' := D4) e4' fun D5 e5' => ?_⟩⟩⟩⟩⟩
  have u1 := same_upd hl1 (.lst (ks0.map V.int))
  have u2 := same_upd h0 (.tup [V.str "jump", .int 1])
  have u3 := same_upd hcd (.lst [V.ref t0])
  have u4 := same_upd hcl (.lst [])
  have u5 := same_upd hmv (.lst [])
  have e3 : upd _ cd (.lst [V.ref t0]) cd = some (.lst [V.ref t0]) := upd_same (H := upd (upd H l1 (.lst (ks0.map V.int))) t0 (.tup [V.str "jump", .int 1]))
  have e4 := upd_same (H := upd (upd (upd H l1 (.lst (ks0.map V.int))) t0 (.tup [V.str "jump", .int 1])) cd (.lst [V.ref t0])) (a := cl) (o := .lst [])
  have hL5 := (u1.trans (u2.trans (u3.trans (u4.trans u5)))).seq hL
  have M0 : Pin _ cd cl mv [t0] [] [] [[V.str "jump", .int 1]] [] [] :=
    ⟨⟨u5 _ _ (u4 _ _ e3), ⟨(u3.trans (u4.trans u5)) _ _ upd_same, True.intro⟩, show 1 ≤ 1000 by decide⟩, u5 _ _ e4, True.intro, upd_same, True.intro, Ne.symm (same_ne e3 hcl), Ne.symm (same_ne (u4 _ _ e3) hmv), Ne.symm (same_ne e4 hmv), Nat.zero_le _, Nat.zero_le _⟩
  generalize upd (upd (upd (upd (upd H l1 (.lst (ks0.map V.int))) t0 (.tup [V.str "jump", .int 1])) cd (.lst [V.ref t0])) cl (.lst [])) mv (.lst []) = H5 at M0 hL5
  clear u1 u2 u3 u4 u5 e3 e4 hmv hcl hcd h0 hl1
  obtain ⟨xs, hxs⟩ := cut_ints ns (some 1) (some 25)
  have hx24 : xs.length ≤ 24 := by
    have := cut24 (ns.map V.int)
    rw [hxs, List.length_map] at this
    exact this
  refine nxt (D' := D5) e5' fun D6 e6' => ?_
  clear e1 e2 e3' e4' e5'
  refine ⟨_, rfl, _, rfl, _, rfl, L, _, rfl, hL5, fun l0 hl0 => ?_⟩
  rw [hxs]
  have u0 := same_upd hl0 (.lst (xs.map V.int))
  have n1 := same_ne M0.code.hcd hl0
  have n2 := same_ne M0.hcl hl0
  have n3 := same_ne M0.hmv hl0
  have M1 : Lp _ cd cl mv l0 (xs.map V.int) [t0] [] [] [[V.str "jump", .int 1]] [] := ⟨M0.same u0, fun B => Pre.of [.jump 1], fun _ h => (List.not_mem_nil h).elim, upd_same⟩
  generalize upd H5 l0 (.lst (xs.map V.int)) = H6 at M1
  clear u0 hl0 hL5 M0
  refine ⟨l0, _, rfl, SqL.of M1.l0, ?_⟩
  refine for_enum (xs := xs.map V.int) (fun i σ H2 => ∃ (x6 x7 : Option V) (ts : List Pt) (cs ks vs : List Addr) (es : List (List V)), σ = [some (.ref L), some (.int fi), some (.ref cd), some (.ref cl), some (.ref mv), some (.int ((cnP ts : Nat) : Int)), x6, x7, none, none, none, none, none] ∧ ts.length = i ∧ Lp H2 cd cl mv l0 (xs.map V.int) cs ks vs es ts)
    ⟨none, none, [], [t0], [], [], _, rfl, rfl, M1⟩ ?_ ?_ ?_
  · rintro i σ H2 _ ⟨x6, x7, ts, cs, ks, vs, es, rfl, _, M⟩
    exact SqL.of M.l0
  · rintro i x σ H2 hx ⟨x6, x7, ts, cs, ks, vs, es, rfl, hi, M⟩ t ht
    have hi24 : i < 24 := by
      have := (List.getElem?_eq_some_iff.mp hx).1
      rw [List.length_map] at this
      exact Nat.lt_of_lt_of_le this hx24
    obtain ⟨ce, rfl⟩ : ∃ ce : Int, x = .int ce := by
      rw [List.getElem?_map] at hx
      cases h : xs[i]? with
      | none => rw [h] at hx; cases hx
      | some p => rw [h] at hx; cases hx; exact ⟨p, rfl⟩
    obtain ⟨b1, b2, b3⟩ := M.le
    have hi24' : ts.length < 24 := by rw [hi]; exact hi24
    have q1 := n_q1 b1 hi24'
    have q4 := n_q4 b3 hi24'
    have v1 := same_upd ht (.tup [.int (i : Int), .int ce])
    have P1 := M.pin.same v1
    have k1 := v1 _ _ M.l0
    refine ⟨t, _, rfl, SqT.of upd_same, rfl, _, _, rfl, _, _, rfl, rfl, ?_⟩
    refine abs_D fun Db eb => abs_seq fun B1 f1 => ?_
    generalize upd H2 t (.tup [.int (i : Int), .int ce]) = G1 at P1 k1
    clear v1 ht
    refine ⟨_, rfl, .inl ⟨rfl, _, SqL.of P1.code.hcd⟩, _, rfl, le2, fun t1 h1 => ⟨le2, fun t2 h2 => ⟨le2, fun b hb => ?_⟩⟩⟩
    have T1 : MvAt _ [t1, t2] [[V.str "push", .int (i : Int)], [V.str "store", .str "n"]] := mv_new (mv_new (ts := []) (ms := []) True.intro h1) h2
    have sb := (same_upd h1 (.tup [V.str "push", .int (i : Int)])).trans ((same_upd h2 (.tup [V.str "store", .str "n"])).trans (same_upd hb (.lst [V.ref t1, .ref t2])))
    refine ⟨cd, b, _, _, rfl, rfl, (P1.code.same sb).hcd, upd_same, line1000 (by rw [List.length_map]; exact P1.code.le) (by show 2 ≤ 1000; decide), ?_⟩
    have P2 : Pin (upd _ cd (.lst (cs.map V.ref ++ [V.ref t1, V.ref t2]))) cd cl mv (cs ++ [t1, t2]) ks vs _ _ _ := P1.code' ((Sb.of sb).trans sb_upd) (P1.code.ext sb (T1.same (same_upd hb _)) (show cs.length + 2 ≤ 1000 from lek q1 (by decide)))
    have k2 : upd _ cd (.lst (cs.map V.ref ++ [V.ref t1, V.ref t2])) l0 = some (.lst (xs.map V.int)) := ((Sb.of sb).trans sb_upd) _ _ n1 k1
    generalize upd _ cd (.lst (cs.map V.ref ++ [V.ref t1, V.ref t2])) = G2 at P2 k2
    clear T1 sb
    refine nxt (D' := B1) f1 fun B2 f2 => ?_
    clear f1
    have e1 : (cs ++ [t1, t2]).length = cs.length + 2 := by rw [List.length_append]; rfl
    refine ⟨_, rfl, _, rfl, _, rfl, _, rfl, _, rfl, _, rfl, _, _, rfl, rfl, (by show (0 : Int) < 2; decide), le2, fun st hst => ?_⟩
    have v3 := same_upd hst (.lst [V.int ce, .int (fi % 2)])
    have m4 := same_ne k2 hst
    refine ⟨cd, cl, mv, st, ce, fi % 2, cs ++ [t1, t2], ks, vs, _, _, _, rfl, P2.same v3, upd_same, same_ne P2.code.hcd hst, same_ne P2.hcl hst, same_ne P2.hmv hst, (by rw [e1]; exact lek (lek q1 (show 369 + 2 ≤ 371 by decide)) (by decide)), Nat.lt_of_le_of_lt b2 (Nat.lt_trans hi24' (by decide)), lek q4 (by decide), fun pt ts' ks' vs' es' G3 pok P3 pr w3 => ?_⟩
    have k3 := w3 _ _ n1 n2 n3 (Ne.symm m4) (v3 _ _ k2)
    clear v3 w3 hst k2 P2
    refine ⟨_, _, rfl, rfl, nxt (D' := B2) f2 fun B3 f3 => ?_⟩
    clear f2
    have hpr : ∀ B, Pre (es ++ [[V.str "push", .int (i : Int)], [V.str "store", .str "n"]] ++ es') (([.jump 1] ++ allP B 1 0 ts) ++ [.push (i : Int), .store "n"] ++ pt.bd B ((cs.length) + 2)) := fun B => ((M.pre B).app (Pre.of [.push (i : Int), .store "n"])).app (by have := pr B; rw [e1] at this; exact this)
    have c3 : (cs ++ [t1, t2] ++ ts').length = cs.length + 2 + (pt.bd 0 (cs.length + 2)).length := by
      rw [P3.code.mv.len, (hpr 0).1, List.length_append, List.length_append, ← (M.pre 0).1, ← M.pin.code.mv.len]
      rfl
    have c3' : (cs ++ [t1, t2] ++ ts').length ≤ cs.length + 14 := by
      have := all_le pt pok 0 cs.length 0
      rw [Pt.all, List.length_append, List.length_append] at this
      exact n_c3 c3 this
    have q5 : (cs ++ [t1, t2] ++ ts').length ≤ 383 := Nat.le_trans c3' (lek q1 (by decide))
    have c4 : (vs ++ vs').length ≤ 143 := by
      rw [P3.mva.len, List.length_append]
      exact n_c4 (mvsP_le ts 0 M.ok) (mvs_le pt pok) hi24'
    refine ⟨_, rfl, .inl ⟨rfl, _, SqL.of P3.code.hcd⟩, le2, fun t3 h3 => ⟨le1, fun t4 h4 => ⟨le2, fun b' hb' => ?_⟩⟩⟩
    have T2 : MvAt _ [t3, t4] [[V.str "load", .str "n"], [V.str "hold"]] := mv_new (mv_new (ts := []) (ms := []) True.intro h3) h4
    have sb := (same_upd h3 (.tup [V.str "load", .str "n"])).trans ((same_upd h4 (.tup [V.str "hold"])).trans (same_upd hb' (.lst [V.ref t3, .ref t4])))
    refine ⟨cd, b', _, _, rfl, rfl, (P3.code.same sb).hcd, upd_same, line1000 (by rw [List.length_map]; exact P3.code.le) (by show 2 ≤ 1000; decide), ?_⟩
    have P4 : Pin (upd _ cd (.lst ((cs ++ [t1, t2] ++ ts').map V.ref ++ [V.ref t3, V.ref t4]))) cd cl mv (cs ++ [t1, t2] ++ ts' ++ [t3, t4]) _ _ _ _ _ := P3.code' ((Sb.of sb).trans sb_upd) (P3.code.ext sb (T2.same (same_upd hb' _)) (lek q5 (show 383 + 2 ≤ 1000 by decide)))
    have k4 : upd _ cd (.lst ((cs ++ [t1, t2] ++ ts').map V.ref ++ [V.ref t3, V.ref t4])) l0 = some (.lst (xs.map V.int)) := ((Sb.of sb).trans sb_upd) _ _ n1 k3
    generalize upd _ cd (.lst ((cs ++ [t1, t2] ++ ts').map V.ref ++ [V.ref t3, V.ref t4])) = G4 at P4 k4
    clear T2 sb P3
    refine nxt1 (D' := B3) f3 ?_
    clear f3
    refine ⟨_, rfl, .inl ⟨rfl, _, SqL.of P4.hmv⟩, _, rfl, le2, fun t5 h5 => ?_⟩
    have v5 := same_upd h5 (.tup [V.str "hold", .int (i : Int)])
    have P5 := P4.same v5
    refine ⟨mv, _, .ref t5, rfl, rfl, P5.hmv, (by rw [List.length_map]; exact Nat.lt_of_le_of_lt c4 (by decide)), ?_⟩
    have P6 := P5.moves (ts := [t5]) (es := [hd (i : Int)]) ⟨upd_same, True.intro⟩ (lek c4 (show 143 + 1 ≤ 3000 by decide))
    have k6 : upd (upd G4 t5 (.tup [V.str "hold", .int (i : Int)])) mv (.lst ((vs ++ vs').map V.ref ++ [V.ref t5])) l0 = some (.lst (xs.map V.int)) := by rw [upd_ne n3]; exact v5 _ _ k4
    have ec : ((cnP ts : Nat) : Int) + ((pt.cn : Nat) : Int) = ((cnP (ts ++ [pt]) : Nat) : Int) := by rw [cnP_snoc]; exact (Int.natCast_add _ _).symm
    have ei : (0 : Int) + ((ts.length : Nat) : Int) = (i : Int) := by rw [hi, Int.zero_add]
    refine nxtI (D' := Db) eb ?_
    refine ⟨some (.int (i : Int)), some (.int ce), ts ++ [pt], cs ++ [t1, t2] ++ ts' ++ [t3, t4], ks ++ ks', vs ++ vs' ++ [t5], es ++ [[V.str "push", .int (i : Int)], [V.str "store", .str "n"]] ++ es' ++ [[V.str "load", .str "n"], [V.str "hold"]], (by rw [← ec]; rfl), (by rw [List.length_append, hi]; rfl), ?_, fun B => ?_, ?_, k6⟩
    · have el : 1 + (allP 0 1 0 ts).length + 2 = (cs ++ [t1, t2]).length := by rw [e1, M.len]
      rw [clP_snoc, mvsP_snoc, ei, el, ← List.append_assoc (mvsP 0 ts)]
      exact P6
    · have el : 1 + (allP B 1 0 ts).length = cs.length := by rw [allP_len B 0 ts 1 1 0 0, M.len]
      rw [allP_snoc, ei, el, Pt.all, ← List.append_assoc, ← List.append_assoc, ← List.append_assoc]
      exact (hpr B).app (Pre.of [.load "n", .hold])
    · intro x hx
      rcases List.mem_append.mp hx with hx | hx
      · exact M.ok x hx
      · rw [show x = pt by simpa using hx]; exact pok
  rintro σ H2 ⟨x6, x7, ts, cs, ks, vs, es, rfl, hi, M⟩
  rw [List.length_map] at hi
  have hts : ts.length ≤ 24 := by rw [hi]; exact hx24
  obtain ⟨b1, b2, b3⟩ := M.le
  have hcn := n_qc (cnP_le ts M.ok) hts
  have q7 := n_q7 b1 hts
  have q9 := n_q9 b3 hts
  clear M1
  refine nxt (D' := D6) e6' fun D7 e7 => ?_
  clear e6'
  refine ⟨le1, fun te hte => ?_⟩
  have u0 := same_upd hte (.tup [V.str "done"])
  have P0 := M.pin.same u0
  have g0 : upd H2 te (.tup [V.str "done"]) te = some (.tup [V.str "done"]) := upd_same
  have hpre := M.pre
  have hlen := M.len
  have hok := M.ok
  generalize upd H2 te (.tup [V.str "done"]) = G0 at P0 g0
  clear u0 hte M
  refine nxt1 (D' := D7) e7 ?_
  clear e7
  refine ⟨fun σ H3 => ∃ (x9 : Option V) (om : Option Nat) (te : Addr) (s : Str) (cs vs : List Addr) (es : List (List V)), σ = [some (.ref L), some (.int fi), some (.ref cd), some (.ref cl), some (.ref mv), some (.int ((cnP ts : Nat) : Int)), x6, x7, some (.ref te), x9, none, none, none] ∧
    Pin H3 cd cl mv cs ks vs es (clP 1 ts) (due18 ts om).1 ∧ (∀ B, Pre es (([.jump 1] ++ allP B 1 0 ts) ++ lst18 (1 + (allP B 1 0 ts).length) om)) ∧ (∀ m, om = some m → m ≤ 2010) ∧ H3 te = some (.tup [.str s]) ∧ (due18 ts om).2 = .tuple [.str s] ∧ cs.length ≤ 500, ?_, ?_⟩
  · refine abs_D fun Dm em => ?_
    refine ⟨_, rfl, _, _, rfl, rfl, ⟨by decide, by decide⟩, _, _, rfl, rfl, (by show (0 : Int) < 3; decide), rfl, _, rfl, ?_⟩
    refine ite2 (fun _ => ?_) (fun _ => ?_)
    · refine abs_seq fun M1 m1 => ?_
      refine ⟨_, rfl, _, _, rfl, rfl, _, rfl, _, _, rfl, rfl, ⟨by decide, by decide⟩, _, _, rfl, rfl, (by show (0 : Int) < 4; decide), _, _, rfl, rfl, ?_⟩
      obtain ⟨m, hm, hm1⟩ := n_m hcn fi
      show gName 9 (V.int (1999 - ((cnP ts : Nat) : Int) + fi / 6 % 4)) _ _ _
      rw [hm]
      refine nxt (D' := M1) m1 fun M2 m2 => ?_
      clear m1
      refine ⟨_, rfl, _, rfl, cd, m, 5, cs, es, rfl, P0.code, lek q7 (by decide), fun tl H4 s4 tlen C4 => nxt (D' := M2) m2 fun M3 m3 => ?_⟩
      clear m2
      have P1 := P0.code' s4 C4
      have ntc : te ≠ cd := fun z => by rw [z, P0.code.hcd] at g0; cases g0
      have ntm : te ≠ mv := fun z => by rw [z, P0.hmv] at g0; cases g0
      have g1 := s4 _ _ ntc g0
      refine ⟨_, rfl, .inl ⟨rfl, _, SqL.of P1.hmv⟩, le2, fun t ht => ⟨le1, fun l hl => ⟨_, rfl, _, rfl, _, _, rfl, rfl, _, _, rfl, ?_⟩⟩⟩
      obtain ⟨z, hz, hz1⟩ : ∃ z : Nat, (if 2000 - ((cnP ts : Nat) : Int) < (m : Int) then 2000 - ((cnP ts : Nat) : Int) else (m : Int)) = (z : Int) ∧ z = min m (2000 - cnP ts) := ⟨_, n_z hcn m, rfl⟩
      have hz2 : z ≤ 2002 := by rw [hz1]; exact Nat.le_trans (Nat.min_le_left _ _) hm1
      refine ⟨l, (z : Int), _, rfl, congrArg V.int hz, upd_same, (n_63 hz2).1, (n_63 hz2).2, (by show 1 * (z : Int).toNat ≤ sizeLine; rw [Nat.one_mul, Int.toNat_natCast]; exact Nat.le_trans hz2 (by decide)), fun p hp => ?_⟩
      have u1 := same_upd ht (.tup [V.str "hold", .int 5])
      have u2 := same_upd hl (.lst [V.ref t])
      rw [Int.toNat_natCast, rep_ref]
      have u3 := same_upd hp (.lst ((List.replicate z t).map V.ref))
      have uu := u1.trans (u2.trans u3)
      have P2 := P1.same uu
      refine ⟨mv, p, _, _, rfl, rfl, P2.hmv, upd_same, (by rw [List.length_map, List.length_map, List.length_replicate]; exact Nat.le_trans (n_vz q9 hz2) (by decide)), ?_⟩
      have P3 := P2.moves (rep_at (u3 _ _ (u2 _ _ upd_same)) z) (by rw [List.length_replicate]; exact n_vz q9 hz2)
      have g3 : upd (upd (upd (upd H4 t (.tup [V.str "hold", .int 5])) l (.lst [V.ref t])) p (.lst ((List.replicate z t).map V.ref))) mv (.lst (vs.map V.ref ++ (List.replicate z t).map V.ref)) te = some (.tup [V.str "done"]) := by rw [upd_ne ntm]; exact uu _ _ g1
      generalize upd (upd (upd (upd H4 t (.tup [V.str "hold", .int 5])) l (.lst [V.ref t])) p (.lst ((List.replicate z t).map V.ref))) mv (.lst (vs.map V.ref ++ (List.replicate z t).map V.ref)) = H7 at P3 g3
      have hpre' : ∀ B, Pre (es ++ ([Rw.push (m : Int), .store "i"] ++ lpRows (cs.length + 2) 5).map cV) (([.jump 1] ++ allP B 1 0 ts) ++ lst18 (1 + (allP B 1 0 ts).length) (some m)) := fun B => (hpre B).app (by
        rw [allP_len B 0 ts 1 1 0 0, ← hlen]
        exact Pre.of _)
      have hm2 : ∀ m', some m = some m' → m' ≤ 2010 := fun m' e => by cases e; exact Nat.le_trans hm1 (by decide)
      have c5 : (cs ++ tl).length ≤ 500 := by rw [List.length_append, tlen]; exact lek q7 (by decide)
      have due1 : mvsP 0 ts ++ List.replicate z (hd 5) = (due18 ts (some m)).1 := by rw [hz1]; rfl
      rw [due1] at P3
      refine nxt1 (D' := M3) m3 ?_
      clear m3
      refine ⟨_, rfl, _, rfl, _, _, rfl, rfl, _, _, rfl, rfl, _, rfl, ?_⟩
      refine ite2 (fun hgt => ?_) (fun hgt => ?_)
      · refine ⟨le1, fun te2 hte2 => ?_⟩
        have u6 := same_upd hte2 (.tup [V.str "long"])
        have hgt' : 2000 < cnP ts + m := n_gt.mp (of_decide_eq_true hgt)
        exact nxtI (D' := Dm) em ⟨_, some m, te2, "long", _, _, _, rfl, P3.same u6, hpre', hm2, upd_same, by rw [due18, if_pos hgt'], c5⟩
      · have hgt' : ¬ 2000 < cnP ts + m := fun h => hgt (decide_eq_true (n_gt.mpr h))
        exact nxtI (D' := Dm) em ⟨_, some m, te, "done", _, _, _, rfl, P3, hpre', hm2, g3, by rw [due18, if_neg hgt'], c5⟩
    · exact nxtI (D' := Dm) em ⟨none, none, te, "done", cs, vs, es, rfl, P0, fun B => by rw [lst18, List.append_nil]; exact hpre B, (fun m e => by cases e), g0, rfl, Nat.le_trans q7 (by decide)⟩
  clear P0 g0 hpre hlen b1 b3
  rintro _ H3 ⟨x9, om, te, s, cs, vs, es, rfl, P0, hpre, hom, g0, hdue, hcs⟩
  refine abs_seq fun D8 e8 => ?_
  refine ⟨_, rfl, .inl ⟨rfl, _, SqL.of P0.code.hcd⟩, le1, fun t1 h1 => ?_⟩
  have v1 := same_upd h1 (.tup [V.str "stop"])
  have P1 := P0.same v1
  have nte : te ≠ cd := fun z => by rw [z, P0.code.hcd] at g0; cases g0
  refine ⟨cd, _, .ref t1, rfl, rfl, P1.code.hcd, (by rw [List.length_map]; exact Nat.lt_of_le_of_lt (show cs.length ≤ 500 from hcs) (by decide)), ?_⟩
  have P2 : Pin (upd _ cd (.lst (cs.map V.ref ++ [V.ref t1]))) cd cl mv (cs ++ [t1]) ks vs _ _ _ := P1.code' sb_upd (P1.code.ext (ts := [t1]) (es := [[V.str "stop"]]) (Same.refl _) ⟨upd_same, True.intro⟩ (show cs.length + 1 ≤ 1000 from lek hcs (by decide)))
  have g2 : upd (upd H3 t1 (.tup [V.str "stop"])) cd (.lst (cs.map V.ref ++ [V.ref t1])) te = some (.tup [.str s]) := by rw [upd_ne nte]; exact v1 _ _ g0
  generalize upd (upd H3 t1 (.tup [V.str "stop"])) cd (.lst (cs.map V.ref ++ [V.ref t1])) = H5 at P2 g2
  have hB : ∀ B, Pre (es ++ [[V.str "stop"]]) (pre18 B ts om) := fun B => by
    have := (hpre B).app (Pre.of [.stop])
    rw [pre18, ← List.append_assoc (allP B 1 0 ts), ← List.append_assoc, ← List.append_assoc]
    exact this
  have hl : (cs ++ [t1]).length = B18 ts om := by rw [P2.code.mv.len, (hB 0).1, pre_len]
  have hcs2 : (cs ++ [t1]).length ≤ 501 := by rw [List.length_append]; exact lek hcs (show 500 + 1 ≤ 501 by decide)
  have A0 : Pat H5 cd 0 (clP 1 ts) (pre18 (B18 ts om) ts om) _ := Pat.zero (hB (B18 ts om))
  have lk := lk_pre (B18 ts om) ts om
  generalize hB0 : B18 ts om = B at hl A0 lk
  have hrl : (pre18 B ts om).length = B := by rw [pre_len, hB0]
  generalize hrows : pre18 B ts om = rows at A0 lk hrl
  generalize es ++ [[V.str "stop"]] = es1 at P2 A0
  generalize cs ++ [t1] = cs1 at P2 hl hcs2
  clear P1 P0 v1 g0 hpre hB
  refine nxt (D' := D8) e8 fun D9 e9 => ?_
  clear e8
  refine ⟨_, rfl, cl, rfl, ⟨_, SqL.of P2.hcl⟩, ?_⟩
  refine for_list (K := K) (xs := ks.map V.ref) (fun j σ H6 => ∃ (x10 x11 x12 : Option V) (cs2 : List Addr) (es2 : List (List V)), σ = [some (.ref L), some (.int fi), some (.ref cd), some (.ref cl), some (.ref mv), some (.int ((cnP ts : Nat) : Int)), x6, x7, some (.ref te), x9, x10, x11, x12] ∧
    Pin H6 cd cl mv cs2 ks vs es2 (clP 1 ts) (due18 ts om).1 ∧ cs2.length = B ∧ Pat H6 cd j (clP 1 ts) rows es2 ∧ H6 te = some (.tup [.str s])) ⟨none, none, none, cs1, es1, rfl, P2, hl, A0, g2⟩ ?_ ?_ ?_
  · rintro j σ H6 _ ⟨x10, x11, x12, cs2, es2, rfl, P3, _, _, _⟩
    exact SqL.of P3.hcl
  · rintro j x σ H6 hx ⟨x10, x11, x12, cs2, es2, rfl, P3, hl3, A3, g3⟩
    obtain ⟨k, hk, rfl⟩ : ∃ k, ks[j]? = some k ∧ x = .ref k := by
      rw [List.getElem?_map] at hx
      cases h : ks[j]? with
      | none => rw [h] at hx; cases hx
      | some p => rw [h] at hx; cases hx; exact ⟨p, rfl, rfl⟩
    obtain ⟨c, l, hc, a, b, d⟩ := P3.cla.get hk
    obtain ⟨p, hp1, hp2⟩ := lk.snd c (List.mem_of_getElem? hc)
    have hp3 : p = c.1 := by rw [hp1, Nat.zero_add]
    subst hp3
    have hlt : c.1 < cs2.length := by
      rw [hl3, ← hrl]
      exact (List.getElem?_eq_some_iff.mp hp2).1
    refine ⟨k, _, rfl, SqT.of a, rfl, _, _, rfl, _, _, rfl, _, _, rfl, rfl, ?_⟩
    refine abs_D fun Db eb => ?_
    refine ⟨_, rfl, cd, _, rfl, .inl (SqL.of P3.code.hcd), _, rfl, _, _, rfl, rfl, _, rfl, le3, fun t ht => ?_⟩
    have ev : (((cs2.map V.ref).length : Nat) : Int) + ((c.2.1 : Nat) : Int) = ((B + c.2.1 : Nat) : Int) := by rw [List.length_map, hl3]; exact (Int.natCast_add _ _).symm
    have v := same_upd ht (.tup [V.str "call", .int ((((cs2.map V.ref).length : Nat) : Int) + ((c.2.1 : Nat) : Int)), .ref l])
    have P4 := P3.same v
    have hm : (cs2.map V.ref).set c.1 (.ref t) = (cs2.set c.1 t).map V.ref := List.map_set.symm
    refine ⟨_, rfl, _, rfl, cd, _, _, c.1, rfl, rfl, P4.code.hcd, ixN_nat (by rw [List.length_map]; exact hlt), ?_⟩
    rw [hm]
    have C5 : CdA (upd (upd H6 t (.tup [V.str "call", .int ((((cs2.map V.ref).length : Nat) : Int) + ((c.2.1 : Nat) : Int)), .ref l])) cd (.lst ((cs2.set c.1 t).map V.ref))) cd (cs2.set c.1 t) (es2.set c.1 [V.str "call", .int ((B + c.2.1 : Nat) : Int), .ref l]) := by
      rw [← ev]
      exact ⟨upd_same, (MvAt.set upd_same c.1 P4.code.mv).upd (sbn P4.code.hcd), by rw [List.length_set]; exact P4.code.le⟩
    have w5 : Sb cd H6 (upd (upd H6 t (.tup [V.str "call", .int ((((cs2.map V.ref).length : Nat) : Int) + ((c.2.1 : Nat) : Int)), .ref l])) cd (.lst ((cs2.set c.1 t).map V.ref))) := (Sb.of v).trans sb_upd
    exact nxtI (D' := Db) eb ⟨_, _, _, _, _, rfl, P3.code' w5 C5, by rw [List.length_set]; exact hl3, A3.step hc hp2 (fun x o n e => w5 x o n e) (w5 _ _ d b) d, w5 _ _ nte g3⟩
  rintro σ H6 ⟨x10, x11, x12, cs2, es2, rfl, P3, hl3, A3, g3⟩
  rw [List.length_map, P3.cla.len] at A3
  have R3 := A3.rows lk
  have L3 := A3.len
  have q8 : cs2.length ≤ 501 := by rw [hl3, ← hl]; exact hcs2
  clear A3 A0 P2 g2
  refine nxt (D' := D9) e9 fun E1 f1 => ?_
  clear e9
  refine ⟨_, rfl, .inl ⟨rfl, _, SqL.of P3.code.hcd⟩, le2, fun t1 h1 => ⟨le2, fun t2 h2 => ⟨le1, fun t3 h3 => ⟨le1, fun t4 h4 => ⟨le2, fun t5 h5 => ⟨le2, fun t6 h6 => ⟨le1, fun t7 h7 => ⟨(by show 7 ≤ sizeLine; decide), fun b hb => ?_⟩⟩⟩⟩⟩⟩⟩⟩
  have T1 : MvAt _ [t1, t2, t3, t4, t5, t6, t7] [[V.str "load", .str "n"], [V.str "load", .str "m"], [V.str "sub"], [V.str "hold"], [V.str "push", .int 99], [V.str "store", .str "n"], [V.str "back"]] := mv_new (mv_new (mv_new (mv_new (mv_new (mv_new (mv_new (ts := []) (ms := []) True.intro h1) h2) h3) h4) h5) h6) h7
  have sb := (same_upd h1 (.tup [V.str "load", .str "n"])).trans ((same_upd h2 (.tup [V.str "load", .str "m"])).trans ((same_upd h3 (.tup [V.str "sub"])).trans ((same_upd h4 (.tup [V.str "hold"])).trans ((same_upd h5 (.tup [V.str "push", .int 99])).trans ((same_upd h6 (.tup [V.str "store", .str "n"])).trans ((same_upd h7 (.tup [V.str "back"])).trans (same_upd hb (.lst [V.ref t1, .ref t2, .ref t3, .ref t4, .ref t5, .ref t6, .ref t7]))))))))
  refine ⟨cd, b, _, _, rfl, rfl, (P3.code.same sb).hcd, upd_same, line1000 (by rw [List.length_map]; exact P3.code.le) (by show 7 ≤ 1000; decide), ?_⟩
  have P4 : Pin (upd _ cd (.lst (cs2.map V.ref ++ [V.ref t1, V.ref t2, V.ref t3, V.ref t4, V.ref t5, V.ref t6, V.ref t7]))) cd cl mv (cs2 ++ [t1, t2, t3, t4, t5, t6, t7]) ks vs _ _ _ := P3.code' ((Sb.of sb).trans sb_upd) (P3.code.ext sb (T1.same (same_upd hb _)) (show cs2.length + 7 ≤ 1000 from lek q8 (by decide)))
  have w4 : Sb cd H6 (upd _ cd (.lst (cs2.map V.ref ++ [V.ref t1, V.ref t2, V.ref t3, V.ref t4, V.ref t5, V.ref t6, V.ref t7]))) := (Sb.of sb).trans sb_upd
  generalize upd _ cd (.lst (cs2.map V.ref ++ [V.ref t1, V.ref t2, V.ref t3, V.ref t4, V.ref t5, V.ref t6, V.ref t7])) = H7 at P4 w4
  clear T1 sb
  refine nxt (D' := E1) f1 fun E2 f2 => ?_
  clear f1
  have l4 : (cs2 ++ [t1, t2, t3, t4, t5, t6, t7]).length = cs2.length + 7 := by rw [List.length_append]; rfl
  refine ⟨_, rfl, .inl ⟨rfl, _, SqL.of P4.code.hcd⟩, le2, fun s1 h1 => ⟨le2, fun s2 h2 => ⟨le1, fun s3 h3 => ⟨le1, fun s4 h4 => ⟨le1, fun s5 h5 => ⟨le1, fun s6 h6 => ⟨(by show 6 ≤ sizeLine; decide), fun b hb => ?_⟩⟩⟩⟩⟩⟩⟩
  have T1 : MvAt _ [s1, s2, s3, s4, s5, s6] [[V.str "load", .str "n"], [V.str "load", .str "m"], [V.str "mul"], [V.str "back"], [V.str "sub"], [V.str "back"]] := mv_new (mv_new (mv_new (mv_new (mv_new (mv_new (ts := []) (ms := []) True.intro h1) h2) h3) h4) h5) h6
  have sb := (same_upd h1 (.tup [V.str "load", .str "n"])).trans ((same_upd h2 (.tup [V.str "load", .str "m"])).trans ((same_upd h3 (.tup [V.str "mul"])).trans ((same_upd h4 (.tup [V.str "back"])).trans ((same_upd h5 (.tup [V.str "sub"])).trans ((same_upd h6 (.tup [V.str "back"])).trans (same_upd hb (.lst [V.ref s1, .ref s2, .ref s3, .ref s4, .ref s5, .ref s6])))))))
  refine ⟨cd, b, _, _, rfl, rfl, (P4.code.same sb).hcd, upd_same, line1000 (by rw [List.length_map]; exact P4.code.le) (by show 6 ≤ 1000; decide), ?_⟩
  have P5 : Pin (upd _ cd (.lst ((cs2 ++ [t1, t2, t3, t4, t5, t6, t7]).map V.ref ++ [V.ref s1, V.ref s2, V.ref s3, V.ref s4, V.ref s5, V.ref s6]))) cd cl mv (cs2 ++ [t1, t2, t3, t4, t5, t6, t7] ++ [s1, s2, s3, s4, s5, s6]) ks vs _ _ _ := P4.code' ((Sb.of sb).trans sb_upd) (P4.code.ext sb (T1.same (same_upd hb _)) (by rw [l4]; exact lek (lek q8 (show 501 + 7 ≤ 508 by decide)) (show 508 + 6 ≤ 1000 by decide)))
  have w5 : Sb cd H6 (upd _ cd (.lst ((cs2 ++ [t1, t2, t3, t4, t5, t6, t7]).map V.ref ++ [V.ref s1, V.ref s2, V.ref s3, V.ref s4, V.ref s5, V.ref s6]))) := w4.trans ((Sb.of sb).trans sb_upd)
  generalize upd _ cd (.lst ((cs2 ++ [t1, t2, t3, t4, t5, t6, t7]).map V.ref ++ [V.ref s1, V.ref s2, V.ref s3, V.ref s4, V.ref s5, V.ref s6])) = H8 at P5 w5
  clear T1 sb P4 w4
  have g5 := w5 _ _ nte g3
  rw [List.append_assoc, List.append_assoc] at P5
  have R5 : ∀ (p : Nat) (r : Rw), (rows ++ sub18)[p]? = some r → ∃ e, (es2 ++ ([[V.str "load", .str "n"], [V.str "load", .str "m"], [V.str "sub"], [V.str "hold"], [V.str "push", .int 99], [V.str "store", .str "n"], [V.str "back"]] ++ [[V.str "load", .str "n"], [V.str "load", .str "m"], [V.str "mul"], [V.str "back"], [V.str "sub"], [V.str "back"]]))[p]? = some e ∧ RowIs H8 cd e r := by
    intro p r hp
    by_cases hlt : p < rows.length
    · rw [List.getElem?_append_left hlt] at hp
      rw [List.getElem?_append_left (by rw [L3]; exact hlt)]
      obtain ⟨e, x, y⟩ := R3 p r hp
      exact ⟨e, x, y.keep w5⟩
    · rw [List.getElem?_append_right (Nat.le_of_not_lt hlt)] at hp
      rw [List.getElem?_append_right (by rw [L3]; exact Nat.le_of_not_lt hlt), L3]
      have hs : ([[V.str "load", .str "n"], [V.str "load", .str "m"], [V.str "sub"], [V.str "hold"], [V.str "push", .int 99], [V.str "store", .str "n"], [V.str "back"]] ++ [[V.str "load", .str "n"], [V.str "load", .str "m"], [V.str "mul"], [V.str "back"], [V.str "sub"], [V.str "back"]]) = sub18.map cV := rfl
      rw [hs, List.getElem?_map, hp]
      have hn : noCall r := by
        have hm := List.mem_of_getElem? hp
        have : ∀ r ∈ sub18, noCall r := by simp [sub18, noCall]
        exact this r hm
      exact ⟨_, rfl, fun _ => rfl, fun k xs e => by subst e; exact hn.elim⟩
  refine nxt1 (D' := E2) f2 ?_
  subst e0
  refine ⟨_, rfl, _, rfl, _, rfl, le2, fun tt htt => ⟨le2, fun r hr => ?_⟩⟩
  have v1 := same_upd htt (.tup [V.ref mv, .ref te])
  have v2 := same_upd hr (.lst [V.ref cd, .ref tt])
  have vv := v1.trans v2
  refine q ts om r cd (.ref tt) _ hok hts hom upd_same ?_ ?_
  · rw [hB0, code_pre, hrows]
    exact .lst (SqL.of ((P5.code.same vv).hcd)) (rows18_rp (P5.code.mv.same vv) (by rw [List.length_append, List.length_append, List.length_append, L3]; rfl) (fun p r hp => by
      obtain ⟨e, x, y⟩ := R5 p r hp
      exact ⟨e, x, y.keep (fun x o _ e => vv x o e)⟩))
  · have P6 := P5.same vv
    refine .tup (SqT.of (v2 _ _ upd_same)) (.cons (.lst (SqL.of P6.hmv) (mvs_rp (hd_flat (due_hd ts om)) P6.mva)) (.cons ?_ .nil))
    rw [hdue]
    exact .tup (SqT.of (vv _ _ g5)) (.cons (.str _) .nil)
end
end Car

set_option maxHeartbeats 1000000
namespace Car
open PySem L2
theorem shaped_of {d : PyData} {k : Nat} (h : PyData.canLay0 d = true ∧ PyData.depth d ≤ k) (hk : k ≤ 10) : SeqAt.shaped d = true := by
  unfold SeqAt.shaped
  rw [h.1, Bool.true_and]
  exact decide_eq_true (by omega)
theorem eq_true {d : PyData} (h : PyData.canLay0 d = true) : (if false = true then !PyData.eqv d d else PyData.eqv d d) = true := eqv_self d h
theorem hold_can (i : Int) : PyData.canLay0 (mvD (hd i)) = true ∧ PyData.depth (mvD (hd i)) = 1 := by
  have : PyData.strOk "hold" = true := by decide +kernel
  show PyData.canLay0 (.tuple [.str "hold", .int i]) = true ∧ PyData.depth (.tuple [.str "hold", .int i]) = 1
  rw [PyData.canLay0, PyData.canLayAll0, PyData.canLay0, this]
  exact ⟨rfl, rfl⟩
theorem hds_can : ∀ {ms : List (List V)}, (∀ m ∈ ms, ∃ i : Int, m = hd i) → PyData.canLayAll0 (ms.map mvD) = true ∧ PyData.depthAll (ms.map mvD) ≤ 1
  | [], _ => ⟨rfl, by decide⟩
  | m :: r, h => by
    obtain ⟨i, rfl⟩ := h m List.mem_cons_self
    obtain ⟨a, b⟩ := hold_can i
    obtain ⟨c, d⟩ := hds_can (ms := r) fun x hx => h x (List.mem_cons_of_mem _ hx)
    rw [List.map_cons, PyData.canLayAll0, PyData.depthAll, a, b, c]
    exact ⟨rfl, by omega⟩
theorem due_can (ts : List Pt) (om : Option Nat) : PyData.canLay0 (resD (due18 ts om)) = true ∧ PyData.depth (resD (due18 ts om)) ≤ 10 := by
  obtain ⟨a, b⟩ := hds_can (due_hd ts om)
  have c1 : PyData.canLay0 dLong = true ∧ PyData.depth dLong ≤ 1 := ⟨by decide +kernel, by decide +kernel⟩
  have c2 : PyData.canLay0 dDone = true ∧ PyData.depth dDone ≤ 1 := ⟨by decide +kernel, by decide +kernel⟩
  have e : PyData.canLay0 (due18 ts om).2 = true ∧ PyData.depth (due18 ts om).2 ≤ 1 := by
    cases om with
    | none => exact c2
    | some m =>
      rw [due18]
      by_cases h : 2000 < cnP ts + m
      · rw [if_pos h]; exact c1
      · rw [if_neg h]; exact c2
  rw [resD, PyData.canLay0, PyData.canLayAll0, PyData.canLayAll0, PyData.canLayAll0, PyData.canLay0, a, e.1, PyData.depth, PyData.depthAll, PyData.depthAll, PyData.depthAll, PyData.depth]
  exact ⟨rfl, by omega⟩
/-! ### the rows of the code are rows -/
noncomputable def RG (r : Rw) : Prop := Rw.ok r ∧ PyData.canLay0 r.dat = true ∧ PyData.depth r.dat ≤ 2
theorem bg_i {i : Int} (h : -10000000 ≤ i ∧ i ≤ 10000000) : Bg i := by
  have h1 : i.natAbs ≤ 10000000 := by omega
  exact Nat.lt_of_le_of_lt h1 (by decide)
theorem can1 {s : Str} {r : List PyData} (hs : PyData.strOk s = true) (hr : PyData.canLayAll0 r = true) : PyData.canLay0 (.tuple (.str s :: r)) = true := by
  rw [PyData.canLay0, PyData.canLayAll0, PyData.canLay0, hs, hr]
  rfl
theorem rg_push {i : Int} (h : -10000000 ≤ i ∧ i ≤ 10000000) : RG (.push i) := ⟨bg_i h, can1 (by decide +kernel) rfl, by show 1 ≤ 2; decide⟩
theorem rg_jump {k : Int} : RG (.jump k) := ⟨True.intro, can1 (by decide +kernel) rfl, by show 1 ≤ 2; decide⟩
theorem rg_unless {k : Int} : RG (.unless k) := ⟨True.intro, can1 (by decide +kernel) rfl, by show 1 ≤ 2; decide⟩
theorem rg_call {k : Int} {xs : List Str} (h : xs = (["n", "m"] : List Str) ∨ xs = (["m", "n"] : List Str) ∨ xs = []) : RG (.call k xs) := by
  rcases h with rfl | rfl | rfl
  · refine ⟨show 2 ≤ 1000 by decide, can1 (r := [.int k, .list [.str "n", .str "m"]]) (by decide +kernel) ?_, by show 2 ≤ 2; decide⟩
    rw [PyData.canLayAll0, PyData.canLay0, PyData.canLayAll0, show PyData.canLay0 (.list [.str "n", .str "m"]) = true by decide +kernel]
    rfl
  · refine ⟨show 2 ≤ 1000 by decide, can1 (r := [.int k, .list [.str "m", .str "n"]]) (by decide +kernel) ?_, by show 2 ≤ 2; decide⟩
    rw [PyData.canLayAll0, PyData.canLay0, PyData.canLayAll0, show PyData.canLay0 (.list [.str "m", .str "n"]) = true by decide +kernel]
    rfl
  · refine ⟨show 0 ≤ 1000 by decide, can1 (r := [.int k, .list []]) (by decide +kernel) rfl, by show 2 ≤ 2; decide⟩
theorem rg_load {x : Str} (h : x = "n" ∨ x = "m" ∨ x = "i") : RG (.load x) := by rcases h with rfl | rfl | rfl <;> exact ⟨True.intro, by decide +kernel, by decide +kernel⟩
theorem rg_store {x : Str} (h : x = "n" ∨ x = "i") : RG (.store x) := by rcases h with rfl | rfl <;> exact ⟨True.intro, by decide +kernel, by decide +kernel⟩
theorem rg_join {x : Str} (h : x = "add" ∨ x = "sub" ∨ x = "mul") : RG (.join x) := by
  refine ⟨h, ?_, ?_⟩
  · rcases h with rfl | rfl | rfl <;> decide +kernel
  · rcases h with rfl | rfl | rfl <;> decide +kernel
theorem rg_comp {x : Str} (h : x = "less" ∨ x = "same") : RG (.comp x) := by
  refine ⟨h, ?_, ?_⟩
  · rcases h with rfl | rfl <;> decide +kernel
  · rcases h with rfl | rfl <;> decide +kernel
theorem rg_count : RG .count := ⟨True.intro, by decide +kernel, by decide +kernel⟩
theorem rg_hold : RG .hold := ⟨True.intro, by decide +kernel, by decide +kernel⟩
theorem rg_stop : RG .stop := ⟨True.intro, by decide +kernel, by decide +kernel⟩
theorem rg_back : RG .back := ⟨True.intro, by decide +kernel, by decide +kernel⟩
noncomputable def RGs : List Rw → Prop
  | [] => True
  | r :: rs => RG r ∧ RGs rs
theorem RGs.app : ∀ {a b : List Rw}, RGs a → RGs b → RGs (a ++ b)
  | [], _, _, h => h
  | _ :: _, _, h, g => ⟨h.1, h.2.app g⟩
theorem RGs.all : ∀ {a : List Rw}, RGs a → ∀ r ∈ a, RG r
  | [], _, _, h => (List.not_mem_nil h).elim
  | x :: a, h, r, m => by
    rcases List.mem_cons.mp m with rfl | m
    · exact h.1
    · exact h.2.all r m
theorem rg_lp {top : Nat} {v : Int} (h : -10000000 ≤ v ∧ v ≤ 10000000) : RGs (lpRows top v) :=
  ⟨rg_load (.inr (.inr rfl)), rg_unless, rg_count, rg_push h, rg_hold, rg_load (.inr (.inr rfl)), rg_push (by decide), rg_join (.inr (.inl rfl)), rg_store (.inr rfl), rg_jump, True.intro⟩
theorem rg_bd (t : Pt) (ok : t.ok) (B q : Nat) : RGs (t.bd B q) := by
  cases t with
  | loop m v =>
    obtain ⟨a, b, c⟩ : m ≤ 5 ∧ -4 ≤ v ∧ v ≤ 4 := ok
    exact RGs.app (a := [.push (m : Int), .store "i"]) ⟨rg_push (by omega), rg_store (.inr rfl), True.intro⟩ (rg_lp (by omega))
  | choice w a b =>
    obtain ⟨hw, h1, h2, h3, h4⟩ : (w = "less" ∨ w = "same") ∧ -4 ≤ a ∧ a ≤ 4 ∧ -4 ≤ b ∧ b ≤ 4 := ok
    exact ⟨rg_push (by omega), rg_push (by omega), rg_comp hw, rg_unless, rg_push (by decide), rg_hold, rg_jump, rg_push (by decide), rg_hold, True.intro⟩
  | c0 a b =>
    obtain ⟨h1, h2, h3, h4⟩ : -4 ≤ a ∧ a ≤ 4 ∧ -4 ≤ b ∧ b ≤ 4 := ok
    exact ⟨rg_push (by omega), rg_push (by omega), rg_call (.inl rfl), True.intro⟩
  | c1 a b =>
    obtain ⟨h1, h2, h3, h4⟩ : -4 ≤ a ∧ a ≤ 4 ∧ -4 ≤ b ∧ b ≤ 4 := ok
    exact ⟨rg_push (by omega), rg_push (by omega), rg_push (by omega), rg_call (.inr (.inl rfl)), rg_join (.inl rfl), rg_hold, True.intro⟩
  | c2 a b =>
    obtain ⟨h1, h2, h3, h4⟩ : -4 ≤ a ∧ a ≤ 4 ∧ -4 ≤ b ∧ b ≤ 4 := ok
    exact ⟨rg_push (by decide), rg_push (by omega), rg_push (by omega), rg_call (.inr (.inr rfl)), rg_hold, rg_hold, True.intro⟩
theorem rg_all (t : Pt) (ok : t.ok) (B p : Nat) (k : Int) (hk : 0 ≤ k ∧ k ≤ 1000) : RGs (t.all B p k) :=
  RGs.app (a := [.push k, .store "n"]) ⟨rg_push (by omega), rg_store (.inl rfl), True.intro⟩ ((rg_bd t ok B (p + 2)).app ⟨rg_load (.inl rfl), rg_hold, True.intro⟩)
theorem rg_allP (B : Nat) : ∀ (ts : List Pt) (p : Nat) (k : Int), (∀ t ∈ ts, t.ok) → 0 ≤ k → k + (ts.length : Int) ≤ 1000 → RGs (allP B p k ts)
  | [], _, _, _, _, _ => True.intro
  | t :: ts, p, k, h, h0, h1 => by
    rw [List.length_cons] at h1
    exact (rg_all t (h t List.mem_cons_self) B p k (by omega)).app (rg_allP B ts _ (k + 1) (fun x hx => h x (List.mem_cons_of_mem _ hx)) (by omega) (by omega))
theorem rg_code (B : Nat) (ts : List Pt) (om : Option Nat) (h : ∀ t ∈ ts, t.ok) (hl : ts.length ≤ 24) (hm : ∀ m, om = some m → m ≤ 2010) : RGs (code18 B ts om) := by
  refine RGs.app (a := [.jump 1]) ⟨rg_jump, True.intro⟩ ((rg_allP B ts 1 0 h (by decide) (by omega)).app (RGs.app ?_ (RGs.app (a := [.stop]) ⟨rg_stop, True.intro⟩ ?_)))
  · cases om with
    | none => exact True.intro
    | some m =>
      have := hm m rfl
      exact RGs.app (a := [.push (m : Int), .store "i"]) ⟨rg_push (by omega), rg_store (.inr rfl), True.intro⟩ (rg_lp (by decide))
  · exact ⟨rg_load (.inl rfl), rg_load (.inr (.inl rfl)), rg_join (.inr (.inl rfl)), rg_hold, rg_push (by decide), rg_store (.inl rfl), rg_back, rg_load (.inl rfl), rg_load (.inr (.inl rfl)), rg_join (.inr (.inr rfl)), rg_back, rg_join (.inr (.inl rfl)), rg_back, True.intro⟩
theorem rgs_can : ∀ {rows : List Rw}, RGs rows → PyData.canLayAll0 (rows.map Rw.dat) = true ∧ PyData.depthAll (rows.map Rw.dat) ≤ 2
  | [], _ => ⟨rfl, by decide⟩
  | r :: rs, h => by
    obtain ⟨c, d⟩ := rgs_can h.2
    have a := h.1.2.1
    have b := h.1.2.2
    rw [List.map_cons, PyData.canLayAll0, PyData.depthAll, a, c]
    exact ⟨rfl, by omega⟩
theorem code_can {rows : List Rw} (h : RGs rows) : PyData.canLay0 (.list (rows.map Rw.dat)) = true ∧ PyData.depth (.list (rows.map Rw.dat)) ≤ 10 := by
  obtain ⟨a, b⟩ := rgs_can h
  rw [PyData.canLay0, PyData.depth, a]
  exact ⟨rfl, by omega⟩
section
variable {P : Program} {w : World} {K : PySem.W.Frag} {mg : Str → Option Value} {base : Heap} {f : Addr} {fd' : FuncData}
noncomputable def spLaw (K : PySem.W.Frag) : Sp := fun vs H Q _ => ∃ (a : Addr) (ns : List Int), vs = [.ref a] ∧ SqL K H a (ns.map V.int) ∧ ns.length ≤ 63 ∧ ∀ H', Q (.bl true) H'
theorem scLaw : FnScope ["script", "code", "due", "handed"] ["script"] (defScope sLaw) := ⟨rfl, rfl, rfl, by decide +kernel, rfl, by decide +kernel, by decide +kernel⟩
theorem ok_law (T : LawT mg) (FC : Fn P w K mg base "_law_code" 3 ["script"] (spCode K)) (FD : Fn P w K mg base "do_code" 7 ["code"] (spDoCode K)) (F : Fun K "law" "law" sLaw f fd') : FnOk P w K mg base (CX1 P w) 8 f fd' ["script"] (spLaw K) := by
  have nd := scLaw.nd
  refine F.ok1 scLaw (fun vs H Q E h => ?_) (fun cdv A outer s H vs Q E hr h => ?_)
  · obtain ⟨a, ns, rfl, _⟩ := h
    rfl
  obtain ⟨L, ns, rfl, hL, nl, q⟩ := h
  have hr3 : Room 3 _ := hr.mono (by decide)
  refine ⟨_, (pss_cons (ps_asg (pf_call FC hr3 rfl (pass1 (E := E)) (pa_cons (pv 0) pa_nil)) (pg_lst rfl (pgs_cons (pg_name (i := 1) nd rfl (Or.inl rfl)) (pgs_cons (pg_name (i := 2) nd rfl (Or.inl rfl)) pgs_nil))))
    (pss_cons (ps_set (i := 3) nd rfl (Or.inl rfl) (pe_callTy call_list_of rfl T.list bt_list (pa_cons (pv 1) pa_nil)))
    (pss_one (ps_ret (pe_and (pe_cmpR (op_eqD hr.units) (pf_call FD hr rfl (pass1 (E := E)) (pa_cons (pv 3) pa_nil)) (pv 2) (nomark _)) (pe_one (pe_cmpR (op_eqD hr.units) (pv 3) (pv 1) (nomark _)))))))), ?_⟩
  refine ⟨_, rfl, L, ns, rfl, hL, fun ts om r cd dv H1 ok hl hm hr1 rcd rdv => ?_⟩
  have rg := rg_code (B18 ts om) ts om ok hl hm
  obtain ⟨fu, fu3, run⟩ := run18 ts om ok hl hm
  have dc := due_can ts om
  have fl := hd_flat (due_hd ts om)
  have cc := code_can rg
  generalize code18 (B18 ts om) ts om = rows at rcd rg run cc
  generalize due18 ts om = res at rdv run dc fl
  refine ⟨r, _, rfl, SqL.of hr1, rfl, _, _, rfl, _, _, rfl, rfl, ?_⟩
  obtain ⟨cd', xs, ecd, hcd, rxs⟩ := rcd.lstO
  cases ecd
  refine ⟨_, rfl, cd, xs, rfl, .inl hcd, fun hd hhd => ?_⟩
  have w1 := same_upd hhd (.lst xs)
  refine ⟨_, rfl, .ref hd, rows, fu, res, rfl, .lst (SqL.of upd_same) (rxs.same w1), fun r hr => (rg.all r hr).1, Nat.le_trans fu3 (by decide), run, fun tt H4 s4 told => ?_⟩
  obtain ⟨mm, ev, ts', y1, y2, y3, y4, y5, y6⟩ := told
  refine ⟨_, rfl, resD res, resD res, .tup (SqT.of y1) (.cons (.lst (SqL.of y2) (mvs_rp fl y3)) (.cons y4 .nil)), rdv.same (w1.trans s4), shaped_of dc (by decide), shaped_of dc (by decide), ?_⟩
  rw [eq_true dc.1]
  refine ⟨true, rfl, ?_⟩
  rw [if_pos rfl]
  refine ⟨_, rfl, _, rfl, _, _, .lst (SqL.of (s4 _ _ upd_same)) (rxs.same (w1.trans s4)), rcd.same (w1.trans s4), shaped_of cc (by decide), shaped_of cc (by decide), ?_⟩
  rw [eq_true cc.1]
  exact q _
end
end Car

set_option maxHeartbeats 4000000
namespace Car
open PySem L2
structure FnT (K : PySem.W.Frag) (x : Str) (st : Stmt) (f : Addr) (fd : FuncData) : Prop where
  ns : PySem.W.nsIn K mainGlobals x = some (some (.ref f))
  fn : Fun K x x st f fd
theorem fnT_mk {K : PySem.W.Frag} {x : Str} {st : Stmt} {f : Addr} {oc : Value} {od an : Option Addr} {osl : Array (Option Value)} {kV doc pm cdv ct : Value} (a : PySem.W.nsIn K mainGlobals x = some (some (.ref f)))
    (l : K.lookup f = some ⟨oc, od, .func (PySem.W.fnOf x x (defArgs st) (defBody st) (defScope st) .none kV doc pm an cdv ct), osl⟩) (c : PySem.W.codeIn K cdv x = true) (k : PySem.W.keepIn K (.ref f) = true) : ∃ f fd, FnT K x st f fd := ⟨_, _, a, fun_mk l c k⟩
structure C_Track (K : PySem.W.Frag) (C f0 f1 f2 f3 : Addr) (d0 d1 d2 d3 : FuncData) : Prop where
  ns : PySem.W.nsIn K mainGlobals "Track" = some (some (.ref C))
  cl : Cls K C
  fn___init__ : Fun K "__init__" "Track.__init__" (inClass (top 10) 0) f0 d0
  mks : Mk K C f0
  fn_count_one : Fun K "count_one" "Track.count_one" (inClass (top 10) 1) f1 d1
  mt_count_one : Meth K C "count_one" f1
  fn_make_hold : Fun K "make_hold" "Track.make_hold" (inClass (top 10) 2) f2 d2
  mt_make_hold : Meth K C "make_hold" f2
  fn_make_move : Fun K "make_move" "Track.make_move" (inClass (top 10) 3) f3 d3
  mt_make_move : Meth K C "make_move" f3
  n_moves : NoAttr K C "moves"
  n_places : NoAttr K C "places"
  n_counted : NoAttr K C "counted"
theorem C_Track_mk {K : PySem.W.Frag} {C f0 f1 f2 f3 : Addr} {od0 an0 od1 an1 od2 an2 od3 an3 : Option Addr} {sl0 sl1 sl2 sl3 : Array (Option Value)} {oc0 kV0 dc0 pm0 cd0 ct0 oc1 kV1 dc1 pm1 cd1 ct1 oc2 kV2 dc2 pm2 cd2 ct2 oc3 kV3 dc3 pm3 cd3 ct3 : Value}
    (aC : PySem.W.nsIn K mainGlobals "Track" = some (some (.ref C)))
    (a0 : PySem.W.findIn K (.ref C) "__init__" = some (some (.ref f0))) (i0 : PySem.W.isFn K (.ref f0) = true) (l0 : K.lookup f0 = some ⟨oc0, od0, .func (PySem.W.fnOf "__init__" "Track.__init__" (defArgs (inClass (top 10) 0)) (defBody (inClass (top 10) 0)) (defScope (inClass (top 10) 0)) .none kV0 dc0 pm0 an0 cd0 ct0), sl0⟩) (c0 : PySem.W.codeIn K cd0 "Track.__init__" = true) (k0 : PySem.W.keepIn K (.ref f0) = true)
    (a1 : PySem.W.findIn K (.ref C) "count_one" = some (some (.ref f1))) (i1 : PySem.W.isFn K (.ref f1) = true) (l1 : K.lookup f1 = some ⟨oc1, od1, .func (PySem.W.fnOf "count_one" "Track.count_one" (defArgs (inClass (top 10) 1)) (defBody (inClass (top 10) 1)) (defScope (inClass (top 10) 1)) .none kV1 dc1 pm1 an1 cd1 ct1), sl1⟩) (c1 : PySem.W.codeIn K cd1 "Track.count_one" = true) (k1 : PySem.W.keepIn K (.ref f1) = true)
    (a2 : PySem.W.findIn K (.ref C) "make_hold" = some (some (.ref f2))) (i2 : PySem.W.isFn K (.ref f2) = true) (l2 : K.lookup f2 = some ⟨oc2, od2, .func (PySem.W.fnOf "make_hold" "Track.make_hold" (defArgs (inClass (top 10) 2)) (defBody (inClass (top 10) 2)) (defScope (inClass (top 10) 2)) .none kV2 dc2 pm2 an2 cd2 ct2), sl2⟩) (c2 : PySem.W.codeIn K cd2 "Track.make_hold" = true) (k2 : PySem.W.keepIn K (.ref f2) = true)
    (a3 : PySem.W.findIn K (.ref C) "make_move" = some (some (.ref f3))) (i3 : PySem.W.isFn K (.ref f3) = true) (l3 : K.lookup f3 = some ⟨oc3, od3, .func (PySem.W.fnOf "make_move" "Track.make_move" (defArgs (inClass (top 10) 3)) (defBody (inClass (top 10) 3)) (defScope (inClass (top 10) 3)) .none kV3 dc3 pm3 an3 cd3 ct3), sl3⟩) (c3 : PySem.W.codeIn K cd3 "Track.make_move" = true) (k3 : PySem.W.keepIn K (.ref f3) = true)
    (pg : PySem.W.plainGet K C Str.empty = true) (hd : PySem.W.hasDictIn K C = true) (po : PySem.W.plainOver K C = true) (sa : PySem.W.findIn K (.ref C) "__setattr__" = some (some (.builtin "object.__setattr__"))) (mk : PySem.W.makesIn K C = true) (kc : PySem.W.keepIn K (.ref C) = true) (n0 : PySem.W.findIn K (.ref C) "moves" = some none) (n1 : PySem.W.findIn K (.ref C) "places" = some none) (n2 : PySem.W.findIn K (.ref C) "counted" = some none) :
    ∃ C f0 f1 f2 f3 d0 d1 d2 d3, C_Track K C f0 f1 f2 f3 d0 d1 d2 d3 :=
  ⟨C, f0, f1, f2, f3, _, _, _, _, aC, ⟨pg, hd, po, sa⟩, fun_mk l0 c0 k0, ⟨mk, a0, i0, kc⟩, fun_mk l1 c1 k1, ⟨a1, i1, k1⟩, fun_mk l2 c2 k2, ⟨a2, i2, k2⟩, fun_mk l3 c3 k3, ⟨a3, i3, k3⟩, n0, n1, n2⟩
structure C_Machine (K : PySem.W.Frag) (C f0 f1 f2 f3 : Addr) (d0 d1 d2 d3 : FuncData) : Prop where
  ns : PySem.W.nsIn K mainGlobals "Machine" = some (some (.ref C))
  cl : Cls K C
  fn___init__ : Fun K "__init__" "Machine.__init__" (inClass (top 12) 0) f0 d0
  mks : Mk K C f0
  fn_step : Fun K "step" "Machine.step" (inClass (top 12) 1) f1 d1
  mt_step : Meth K C "step" f1
  fn_take : Fun K "take" "Machine.take" (inClass (top 12) 2) f2 d2
  mt_take : Meth K C "take" f2
  fn_take_many : Fun K "take_many" "Machine.take_many" (inClass (top 12) 3) f3 d3
  mt_take_many : Meth K C "take_many" f3
  n_place : NoAttr K C "place"
  n_heap : NoAttr K C "heap"
  n_frames : NoAttr K C "frames"
  n_returns : NoAttr K C "returns"
  n_track : NoAttr K C "track"
theorem C_Machine_mk {K : PySem.W.Frag} {C f0 f1 f2 f3 : Addr} {od0 an0 od1 an1 od2 an2 od3 an3 : Option Addr} {sl0 sl1 sl2 sl3 : Array (Option Value)} {oc0 kV0 dc0 pm0 cd0 ct0 oc1 kV1 dc1 pm1 cd1 ct1 oc2 kV2 dc2 pm2 cd2 ct2 oc3 kV3 dc3 pm3 cd3 ct3 : Value}
    (aC : PySem.W.nsIn K mainGlobals "Machine" = some (some (.ref C)))
    (a0 : PySem.W.findIn K (.ref C) "__init__" = some (some (.ref f0))) (i0 : PySem.W.isFn K (.ref f0) = true) (l0 : K.lookup f0 = some ⟨oc0, od0, .func (PySem.W.fnOf "__init__" "Machine.__init__" (defArgs (inClass (top 12) 0)) (defBody (inClass (top 12) 0)) (defScope (inClass (top 12) 0)) .none kV0 dc0 pm0 an0 cd0 ct0), sl0⟩) (c0 : PySem.W.codeIn K cd0 "Machine.__init__" = true) (k0 : PySem.W.keepIn K (.ref f0) = true)
    (a1 : PySem.W.findIn K (.ref C) "step" = some (some (.ref f1))) (i1 : PySem.W.isFn K (.ref f1) = true) (l1 : K.lookup f1 = some ⟨oc1, od1, .func (PySem.W.fnOf "step" "Machine.step" (defArgs (inClass (top 12) 1)) (defBody (inClass (top 12) 1)) (defScope (inClass (top 12) 1)) .none kV1 dc1 pm1 an1 cd1 ct1), sl1⟩) (c1 : PySem.W.codeIn K cd1 "Machine.step" = true) (k1 : PySem.W.keepIn K (.ref f1) = true)
    (a2 : PySem.W.findIn K (.ref C) "take" = some (some (.ref f2))) (i2 : PySem.W.isFn K (.ref f2) = true) (l2 : K.lookup f2 = some ⟨oc2, od2, .func (PySem.W.fnOf "take" "Machine.take" (defArgs (inClass (top 12) 2)) (defBody (inClass (top 12) 2)) (defScope (inClass (top 12) 2)) .none kV2 dc2 pm2 an2 cd2 ct2), sl2⟩) (c2 : PySem.W.codeIn K cd2 "Machine.take" = true) (k2 : PySem.W.keepIn K (.ref f2) = true)
    (a3 : PySem.W.findIn K (.ref C) "take_many" = some (some (.ref f3))) (i3 : PySem.W.isFn K (.ref f3) = true) (l3 : K.lookup f3 = some ⟨oc3, od3, .func (PySem.W.fnOf "take_many" "Machine.take_many" (defArgs (inClass (top 12) 3)) (defBody (inClass (top 12) 3)) (defScope (inClass (top 12) 3)) .none kV3 dc3 pm3 an3 cd3 ct3), sl3⟩) (c3 : PySem.W.codeIn K cd3 "Machine.take_many" = true) (k3 : PySem.W.keepIn K (.ref f3) = true)
    (pg : PySem.W.plainGet K C Str.empty = true) (hd : PySem.W.hasDictIn K C = true) (po : PySem.W.plainOver K C = true) (sa : PySem.W.findIn K (.ref C) "__setattr__" = some (some (.builtin "object.__setattr__"))) (mk : PySem.W.makesIn K C = true) (kc : PySem.W.keepIn K (.ref C) = true) (n0 : PySem.W.findIn K (.ref C) "place" = some none) (n1 : PySem.W.findIn K (.ref C) "heap" = some none) (n2 : PySem.W.findIn K (.ref C) "frames" = some none) (n3 : PySem.W.findIn K (.ref C) "returns" = some none) (n4 : PySem.W.findIn K (.ref C) "track" = some none) :
    ∃ C f0 f1 f2 f3 d0 d1 d2 d3, C_Machine K C f0 f1 f2 f3 d0 d1 d2 d3 :=
  ⟨C, f0, f1, f2, f3, _, _, _, _, aC, ⟨pg, hd, po, sa⟩, fun_mk l0 c0 k0, ⟨mk, a0, i0, kc⟩, fun_mk l1 c1 k1, ⟨a1, i1, k1⟩, fun_mk l2 c2 k2, ⟨a2, i2, k2⟩, fun_mk l3 c3 k3, ⟨a3, i3, k3⟩, n0, n1, n2, n3, n4⟩
/-! ### the class of the stops -/
structure C_Stop (K : PySem.W.Frag) (C f0 : Addr) (d0 : FuncData) : Prop where
  ns : PySem.W.nsIn K mainGlobals "Stop" = some (some (.ref C))
  fn : Fun K "__init__" "Stop.__init__" (inClass (top 5) 0) f0 d0
  obj : ∃ nm q N bs sn sub ab col dd k0 k1 k2 k3 k5, K.lookup C = some (excClassObj nm q C N bs bmE true sn sub ab col dd k0 k1 k2 k3 k5 "Exception.__new__") ∧ PySem.W.nsOkIn K N = true ∧ PySem.W.nsIn K N "__init__" = some (some (.ref f0)) ∧
    PySem.W.nsIn K N "__setattr__" = some none ∧ PySem.W.nsIn K N "__getattribute__" = some none ∧ PySem.W.nsIn K N "__getattr__" = some none ∧ PySem.W.nsIn K N "end" = some none
  ty : PySem.W.typeIn K (.ref f0) = some (.type "function")
  cobj : ∃ dd cd sl, K.lookup C = some ⟨.type "type", dd, .cls cd, sl⟩
  exc : PySem.W.mroIn K C (.type "BaseException") = some true
  own : PySem.W.mroIn K C (.ref C) = some true
theorem C_Stop_mk {K : PySem.W.Frag} {C f0 N : Addr} {nm q : Str} {bs : List Value} {sn : List Str} {sub : List Value} {ab : Bool} {col : Option Bool} {dd : Option Addr} {k0 k1 k2 k3 k5 : Option Value} {od an : Option Addr} {sl : Array (Option Value)} {oc kV dc pm cd ct : Value}
    {dd' : Option Addr} {cd' : ClassData} {sl' : Array (Option Value)} {nc : Value} {ndd : Option Addr} {nes : Array DictEntry} {nep : Nat} {nsl : Array (Option Value)}
    (aC : PySem.W.nsIn K mainGlobals "Stop" = some (some (.ref C)))
    (o1 : K.lookup C = some (excClassObj nm q C N bs bmE true sn sub ab col dd k0 k1 k2 k3 k5 "Exception.__new__")) (o2 : K.lookup N = some ⟨nc, ndd, .dict nes nep, nsl⟩) (o3 : (nes.toList.all fun e => match e.key with | .str _ _ => true | _ => false) = true) (a0 : PySem.W.nsIn K N "__init__" = some (some (.ref f0)))
    (n1 : PySem.W.nsIn K N "__setattr__" = some none) (n2 : PySem.W.nsIn K N "__getattribute__" = some none) (n3 : PySem.W.nsIn K N "__getattr__" = some none) (n4 : PySem.W.nsIn K N "end" = some none)
    (l0 : K.lookup f0 = some ⟨oc, od, .func (PySem.W.fnOf "__init__" "Stop.__init__" (defArgs (inClass (top 5) 0)) (defBody (inClass (top 5) 0)) (defScope (inClass (top 5) 0)) .none kV dc pm an cd ct), sl⟩) (c0 : PySem.W.codeIn K cd "Stop.__init__" = true) (k : PySem.W.keepIn K (.ref f0) = true)
    (ty : PySem.W.typeIn K (.ref f0) = some (.type "function")) (co : K.lookup C = some ⟨.type "type", dd', .cls cd', sl'⟩) (ex : PySem.W.mroIn K C (.type "BaseException") = some true) (ow : PySem.W.mroIn K C (.ref C) = some true) : ∃ C f0 d0, C_Stop K C f0 d0 :=
  ⟨C, f0, _, aC, fun_mk l0 c0 k, ⟨nm, q, N, bs, sn, sub, ab, col, dd, k0, k1, k2, k3, k5, o1, (by unfold PySem.W.nsOkIn; rw [o2]; dsimp only; rw [← Array.all_toList]; exact o3), a0, n1, n2, n3, n4⟩, ty, ⟨dd', cd', sl', co⟩, ex, ow⟩
theorem int_mk {K : PySem.W.Frag} {x : Str} {i : Int} {t : Tok} (a : PySem.W.nsIn K mainGlobals x = some (some (.int i t))) : ∃ t, PySem.W.nsIn K mainGlobals x = some (some (.int i t)) := ⟨t, a⟩
theorem look_end : typeLookup (.type "Exception") "end" = pure none := by rw [typeLookup_type, builtinLookup_eq_fast]; kernel_rfl
structure BegD (P : Program) (w : World) (K : PySem.W.Frag) (a : Addr) : Prop where
  ns : PySem.W.nsIn K mainGlobals "BEGINNING" = some (some (.ref a))
  dk : DkK P w K a (envD begN)
theorem beg_mk {P : Program} {w : World} {K : PySem.W.Frag} {a : Addr} {h1 h2 h3 : Int} {t1 t2 t3 u1 u2 u3 : Tok} {ep : Nat} (n : PySem.W.nsIn K mainGlobals "BEGINNING" = some (some (.ref a)))
    (l : K.lookup a = some ⟨.type "dict", none, .dict #[⟨h1, .str "x" t1, .int 0 u1⟩, ⟨h2, .str "y" t2, .int 0 u2⟩, ⟨h3, .str "z" t3, .int 1000 u3⟩] ep, #[]⟩) (e1 : h1 = hashStr w "x") (e2 : h2 = hashStr w "y") (e3 : h3 = hashStr w "z") (hs : (a == sysModules) = false) : ∃ a, BegD P w K a := by
  subst e1 e2 e3
  refine ⟨a, n, hs, (show 3 ≤ sizeLine by decide), [((Sum.inr "x" : Key), .int 0 u1), (Sum.inr "y", .int 0 u2), (Sum.inr "z", .int 1000 u3)], .cons ⟨rfl, _, rfl⟩ (.cons ⟨rfl, _, rfl⟩ (.cons ⟨rfl, _, rfl⟩ .nil)), fun h X => ?_⟩
  refine ⟨_, #[⟨hashStr w "x", .str "x" t1, .int 0 u1⟩, ⟨hashStr w "y", .str "y" t2, .int 0 u2⟩, ⟨hashStr w "z", .str "z" t3, .int 1000 u3⟩], ep, X _ _ l, ⟨rfl, rfl, rfl⟩, rfl, fun e he => ?_, .cons (keyIs_str "x" t1) rfl (.cons (keyIs_str "y" t2) rfl (.cons (keyIs_str "z" t3) rfl .nil)), (show List.Nodup [(Sum.inr "x" : Key), Sum.inr "y", Sum.inr "z"] by decide +kernel)⟩
  have he' : e ∈ [(⟨hashStr w "x", .str "x" t1, .int 0 u1⟩ : DictEntry), ⟨hashStr w "y", .str "y" t2, .int 0 u2⟩, ⟨hashStr w "z", .str "z" t3, .int 1000 u3⟩] := by simpa using he
  simp only [List.mem_cons, List.mem_nil_iff, or_false] at he'
  rcases he' with rfl | rfl | rfl
  · exact ⟨Sum.inr "x", keyIs_str "x" t1, rfl⟩
  · exact ⟨Sum.inr "y", keyIs_str "y" t2, rfl⟩
  · exact ⟨Sum.inr "z", keyIs_str "z" t3, rfl⟩
noncomputable abbrev doiW : List (Str × Str) := [("push", "do_push"), ("load", "do_load"), ("store", "do_store"), ("add", "do_add"), ("sub", "do_sub"), ("mul", "do_mul"), ("less", "do_less"), ("same", "do_same"), ("jump", "do_jump"), ("unless", "do_unless"), ("call", "do_call"), ("back", "do_back"), ("count", "do_count"), ("deeper", "do_deeper"), ("hold", "do_hold"), ("move", "do_move"), ("stop", "do_stop")]
structure DoiD (P : Program) (w : World) (K : PySem.W.Frag) (a : Addr) (kvs : List (Key × V)) : Prop where
  ns : PySem.W.nsIn K mainGlobals "DOINGS" = some (some (.ref a))
  dk : DkK P w K a kvs
  at_ : ∀ p ∈ doiW, ∃ f, PySem.W.nsIn K mainGlobals p.2 = some (some (.ref f)) ∧ valV kvs (Sum.inr p.1 : Key) = some (.ref f)
theorem doi_mk {P : Program} {w : World} {K : PySem.W.Frag} {a f1 f2 f3 f4 f5 f6 f7 f8 f9 f10 f11 f12 f13 f14 f15 f16 f17 : Addr} {h1 h2 h3 h4 h5 h6 h7 h8 h9 h10 h11 h12 h13 h14 h15 h16 h17 : Int} {t1 t2 t3 t4 t5 t6 t7 t8 t9 t10 t11 t12 t13 t14 t15 t16 t17 : Tok} {ep : Nat} (n : PySem.W.nsIn K mainGlobals "DOINGS" = some (some (.ref a)))
    (l : K.lookup a = some ⟨.type "dict", none, .dict #[⟨h1, .str "push" t1, .ref f1⟩, ⟨h2, .str "load" t2, .ref f2⟩, ⟨h3, .str "store" t3, .ref f3⟩, ⟨h4, .str "add" t4, .ref f4⟩, ⟨h5, .str "sub" t5, .ref f5⟩, ⟨h6, .str "mul" t6, .ref f6⟩, ⟨h7, .str "less" t7, .ref f7⟩, ⟨h8, .str "same" t8, .ref f8⟩, ⟨h9, .str "jump" t9, .ref f9⟩, ⟨h10, .str "unless" t10, .ref f10⟩, ⟨h11, .str "call" t11, .ref f11⟩, ⟨h12, .str "back" t12, .ref f12⟩, ⟨h13, .str "count" t13, .ref f13⟩, ⟨h14, .str "deeper" t14, .ref f14⟩, ⟨h15, .str "hold" t15, .ref f15⟩, ⟨h16, .str "move" t16, .ref f16⟩, ⟨h17, .str "stop" t17, .ref f17⟩] ep, #[]⟩) (e1 : h1 = hashStr w "push") (e2 : h2 = hashStr w "load") (e3 : h3 = hashStr w "store") (e4 : h4 = hashStr w "add") (e5 : h5 = hashStr w "sub") (e6 : h6 = hashStr w "mul") (e7 : h7 = hashStr w "less") (e8 : h8 = hashStr w "same") (e9 : h9 = hashStr w "jump") (e10 : h10 = hashStr w "unless") (e11 : h11 = hashStr w "call") (e12 : h12 = hashStr w "back") (e13 : h13 = hashStr w "count") (e14 : h14 = hashStr w "deeper") (e15 : h15 = hashStr w "hold") (e16 : h16 = hashStr w "move") (e17 : h17 = hashStr w "stop") (hs : (a == sysModules) = false)
    (g1 : PySem.W.nsIn K mainGlobals "do_push" = some (some (.ref f1))) (g2 : PySem.W.nsIn K mainGlobals "do_load" = some (some (.ref f2))) (g3 : PySem.W.nsIn K mainGlobals "do_store" = some (some (.ref f3))) (g4 : PySem.W.nsIn K mainGlobals "do_add" = some (some (.ref f4))) (g5 : PySem.W.nsIn K mainGlobals "do_sub" = some (some (.ref f5))) (g6 : PySem.W.nsIn K mainGlobals "do_mul" = some (some (.ref f6))) (g7 : PySem.W.nsIn K mainGlobals "do_less" = some (some (.ref f7))) (g8 : PySem.W.nsIn K mainGlobals "do_same" = some (some (.ref f8))) (g9 : PySem.W.nsIn K mainGlobals "do_jump" = some (some (.ref f9))) (g10 : PySem.W.nsIn K mainGlobals "do_unless" = some (some (.ref f10))) (g11 : PySem.W.nsIn K mainGlobals "do_call" = some (some (.ref f11))) (g12 : PySem.W.nsIn K mainGlobals "do_back" = some (some (.ref f12))) (g13 : PySem.W.nsIn K mainGlobals "do_count" = some (some (.ref f13))) (g14 : PySem.W.nsIn K mainGlobals "do_deeper" = some (some (.ref f14))) (g15 : PySem.W.nsIn K mainGlobals "do_hold" = some (some (.ref f15))) (g16 : PySem.W.nsIn K mainGlobals "do_move" = some (some (.ref f16))) (g17 : PySem.W.nsIn K mainGlobals "do_stop" = some (some (.ref f17))) : ∃ a kvs, DoiD P w K a kvs := by
  subst e1 e2 e3 e4 e5 e6 e7 e8 e9 e10 e11 e12 e13 e14 e15 e16 e17
  refine ⟨a, [((Sum.inr "push" : Key), .ref f1), ((Sum.inr "load" : Key), .ref f2), ((Sum.inr "store" : Key), .ref f3), ((Sum.inr "add" : Key), .ref f4), ((Sum.inr "sub" : Key), .ref f5), ((Sum.inr "mul" : Key), .ref f6), ((Sum.inr "less" : Key), .ref f7), ((Sum.inr "same" : Key), .ref f8), ((Sum.inr "jump" : Key), .ref f9), ((Sum.inr "unless" : Key), .ref f10), ((Sum.inr "call" : Key), .ref f11), ((Sum.inr "back" : Key), .ref f12), ((Sum.inr "count" : Key), .ref f13), ((Sum.inr "deeper" : Key), .ref f14), ((Sum.inr "hold" : Key), .ref f15), ((Sum.inr "move" : Key), .ref f16), ((Sum.inr "stop" : Key), .ref f17)], n, ⟨hs, (show 17 ≤ sizeLine by decide), [((Sum.inr "push" : Key), .ref f1), ((Sum.inr "load" : Key), .ref f2), ((Sum.inr "store" : Key), .ref f3), ((Sum.inr "add" : Key), .ref f4), ((Sum.inr "sub" : Key), .ref f5), ((Sum.inr "mul" : Key), .ref f6), ((Sum.inr "less" : Key), .ref f7), ((Sum.inr "same" : Key), .ref f8), ((Sum.inr "jump" : Key), .ref f9), ((Sum.inr "unless" : Key), .ref f10), ((Sum.inr "call" : Key), .ref f11), ((Sum.inr "back" : Key), .ref f12), ((Sum.inr "count" : Key), .ref f13), ((Sum.inr "deeper" : Key), .ref f14), ((Sum.inr "hold" : Key), .ref f15), ((Sum.inr "move" : Key), .ref f16), ((Sum.inr "stop" : Key), .ref f17)], .cons ⟨rfl, rfl⟩ (.cons ⟨rfl, rfl⟩ (.cons ⟨rfl, rfl⟩ (.cons ⟨rfl, rfl⟩ (.cons ⟨rfl, rfl⟩ (.cons ⟨rfl, rfl⟩ (.cons ⟨rfl, rfl⟩ (.cons ⟨rfl, rfl⟩ (.cons ⟨rfl, rfl⟩ (.cons ⟨rfl, rfl⟩ (.cons ⟨rfl, rfl⟩ (.cons ⟨rfl, rfl⟩ (.cons ⟨rfl, rfl⟩ (.cons ⟨rfl, rfl⟩ (.cons ⟨rfl, rfl⟩ (.cons ⟨rfl, rfl⟩ (.cons ⟨rfl, rfl⟩ (.nil))))))))))))))))), fun h X => ?_⟩, fun p hp => ?_⟩
  · refine ⟨_, #[⟨hashStr w "push", .str "push" t1, .ref f1⟩, ⟨hashStr w "load", .str "load" t2, .ref f2⟩, ⟨hashStr w "store", .str "store" t3, .ref f3⟩, ⟨hashStr w "add", .str "add" t4, .ref f4⟩, ⟨hashStr w "sub", .str "sub" t5, .ref f5⟩, ⟨hashStr w "mul", .str "mul" t6, .ref f6⟩, ⟨hashStr w "less", .str "less" t7, .ref f7⟩, ⟨hashStr w "same", .str "same" t8, .ref f8⟩, ⟨hashStr w "jump", .str "jump" t9, .ref f9⟩, ⟨hashStr w "unless", .str "unless" t10, .ref f10⟩, ⟨hashStr w "call", .str "call" t11, .ref f11⟩, ⟨hashStr w "back", .str "back" t12, .ref f12⟩, ⟨hashStr w "count", .str "count" t13, .ref f13⟩, ⟨hashStr w "deeper", .str "deeper" t14, .ref f14⟩, ⟨hashStr w "hold", .str "hold" t15, .ref f15⟩, ⟨hashStr w "move", .str "move" t16, .ref f16⟩, ⟨hashStr w "stop", .str "stop" t17, .ref f17⟩], ep, X _ _ l, ⟨rfl, rfl, rfl⟩, rfl, fun e he => ?_, .cons (keyIs_str "push" t1) rfl (.cons (keyIs_str "load" t2) rfl (.cons (keyIs_str "store" t3) rfl (.cons (keyIs_str "add" t4) rfl (.cons (keyIs_str "sub" t5) rfl (.cons (keyIs_str "mul" t6) rfl (.cons (keyIs_str "less" t7) rfl (.cons (keyIs_str "same" t8) rfl (.cons (keyIs_str "jump" t9) rfl (.cons (keyIs_str "unless" t10) rfl (.cons (keyIs_str "call" t11) rfl (.cons (keyIs_str "back" t12) rfl (.cons (keyIs_str "count" t13) rfl (.cons (keyIs_str "deeper" t14) rfl (.cons (keyIs_str "hold" t15) rfl (.cons (keyIs_str "move" t16) rfl (.cons (keyIs_str "stop" t17) rfl (.nil))))))))))))))))), (show List.Nodup [(Sum.inr "push" : Key), (Sum.inr "load" : Key), (Sum.inr "store" : Key), (Sum.inr "add" : Key), (Sum.inr "sub" : Key), (Sum.inr "mul" : Key), (Sum.inr "less" : Key), (Sum.inr "same" : Key), (Sum.inr "jump" : Key), (Sum.inr "unless" : Key), (Sum.inr "call" : Key), (Sum.inr "back" : Key), (Sum.inr "count" : Key), (Sum.inr "deeper" : Key), (Sum.inr "hold" : Key), (Sum.inr "move" : Key), (Sum.inr "stop" : Key)] by decide +kernel)⟩
    have he' : e ∈ [(⟨hashStr w "push", .str "push" t1, .ref f1⟩ : DictEntry), ⟨hashStr w "load", .str "load" t2, .ref f2⟩, ⟨hashStr w "store", .str "store" t3, .ref f3⟩, ⟨hashStr w "add", .str "add" t4, .ref f4⟩, ⟨hashStr w "sub", .str "sub" t5, .ref f5⟩, ⟨hashStr w "mul", .str "mul" t6, .ref f6⟩, ⟨hashStr w "less", .str "less" t7, .ref f7⟩, ⟨hashStr w "same", .str "same" t8, .ref f8⟩, ⟨hashStr w "jump", .str "jump" t9, .ref f9⟩, ⟨hashStr w "unless", .str "unless" t10, .ref f10⟩, ⟨hashStr w "call", .str "call" t11, .ref f11⟩, ⟨hashStr w "back", .str "back" t12, .ref f12⟩, ⟨hashStr w "count", .str "count" t13, .ref f13⟩, ⟨hashStr w "deeper", .str "deeper" t14, .ref f14⟩, ⟨hashStr w "hold", .str "hold" t15, .ref f15⟩, ⟨hashStr w "move", .str "move" t16, .ref f16⟩, ⟨hashStr w "stop", .str "stop" t17, .ref f17⟩] := by simpa using he
    simp only [List.mem_cons, List.mem_nil_iff, or_false] at he'
    rcases he' with rfl | rfl | rfl | rfl | rfl | rfl | rfl | rfl | rfl | rfl | rfl | rfl | rfl | rfl | rfl | rfl | rfl
    · exact ⟨Sum.inr "push", keyIs_str "push" t1, rfl⟩
    · exact ⟨Sum.inr "load", keyIs_str "load" t2, rfl⟩
    · exact ⟨Sum.inr "store", keyIs_str "store" t3, rfl⟩
    · exact ⟨Sum.inr "add", keyIs_str "add" t4, rfl⟩
    · exact ⟨Sum.inr "sub", keyIs_str "sub" t5, rfl⟩
    · exact ⟨Sum.inr "mul", keyIs_str "mul" t6, rfl⟩
    · exact ⟨Sum.inr "less", keyIs_str "less" t7, rfl⟩
    · exact ⟨Sum.inr "same", keyIs_str "same" t8, rfl⟩
    · exact ⟨Sum.inr "jump", keyIs_str "jump" t9, rfl⟩
    · exact ⟨Sum.inr "unless", keyIs_str "unless" t10, rfl⟩
    · exact ⟨Sum.inr "call", keyIs_str "call" t11, rfl⟩
    · exact ⟨Sum.inr "back", keyIs_str "back" t12, rfl⟩
    · exact ⟨Sum.inr "count", keyIs_str "count" t13, rfl⟩
    · exact ⟨Sum.inr "deeper", keyIs_str "deeper" t14, rfl⟩
    · exact ⟨Sum.inr "hold", keyIs_str "hold" t15, rfl⟩
    · exact ⟨Sum.inr "move", keyIs_str "move" t16, rfl⟩
    · exact ⟨Sum.inr "stop", keyIs_str "stop" t17, rfl⟩
  · simp only [List.mem_cons, List.mem_nil_iff, or_false] at hp
    rcases hp with rfl | rfl | rfl | rfl | rfl | rfl | rfl | rfl | rfl | rfl | rfl | rfl | rfl | rfl | rfl | rfl | rfl
    · exact ⟨f1, g1, rfl⟩
    · exact ⟨f2, g2, rfl⟩
    · exact ⟨f3, g3, rfl⟩
    · exact ⟨f4, g4, rfl⟩
    · exact ⟨f5, g5, rfl⟩
    · exact ⟨f6, g6, rfl⟩
    · exact ⟨f7, g7, rfl⟩
    · exact ⟨f8, g8, rfl⟩
    · exact ⟨f9, g9, rfl⟩
    · exact ⟨f10, g10, rfl⟩
    · exact ⟨f11, g11, rfl⟩
    · exact ⟨f12, g12, rfl⟩
    · exact ⟨f13, g13, rfl⟩
    · exact ⟨f14, g14, rfl⟩
    · exact ⟨f15, g15, rfl⟩
    · exact ⟨f16, g16, rfl⟩
    · exact ⟨f17, g17, rfl⟩
structure NoneT (K : PySem.W.Frag) : Prop where
  len : PySem.W.nsIn K mainGlobals "len" = some none
  max : PySem.W.nsIn K mainGlobals "max" = some none
  min : PySem.W.nsIn K mainGlobals "min" = some none
  range : PySem.W.nsIn K mainGlobals "range" = some none
  isin : PySem.W.nsIn K mainGlobals "isinstance" = some none
  abs : PySem.W.nsIn K mainGlobals "abs" = some none
  tuple : PySem.W.nsIn K mainGlobals "tuple" = some none
  list : PySem.W.nsIn K mainGlobals "list" = some none
  bool : PySem.W.nsIn K mainGlobals "bool" = some none
  int : PySem.W.nsIn K mainGlobals "int" = some none
  enum : PySem.W.nsIn K mainGlobals "enumerate" = some none
  zip : PySem.W.nsIn K mainGlobals "zip" = some none
  sum : PySem.W.nsIn K mainGlobals "sum" = some none
  dict : PySem.W.nsIn K mainGlobals "dict" = some none
theorem FnT.fnB {P : Program} {w : World} {K : PySem.W.Frag} {mg : Str → Option Value} {base h : Heap} {x : Str} {st : Stmt} {f : Addr} {fd : FuncData} {k : Nat} {ps : List Str} {sp : Sp} (T : FnT K x st f fd) (X : K.In h) (G : h.Ns mainGlobals mg) (ok : FnOk P w K mg base (CX1 P w) k f fd ps sp) (bi : Binds K fd ps []) : Fn P w K mg base x k ps sp :=
  ⟨f, fd, ok, PySem.W.mg_of X G T.ns, T.fn.kp, bi⟩
theorem FnT.fnV {P : Program} {w : World} {K : PySem.W.Frag} {mg : Str → Option Value} {base : Heap} {x : Str} {st : Stmt} {f f' : Addr} {fd : FuncData} {k : Nat} {ps : List Str} {sp : Sp} (T : FnT K x st f fd) (e : PySem.W.nsIn K mainGlobals x = some (some (.ref f'))) (ok : FnOk P w K mg base (CX1 P w) k f fd ps sp) (bi : Binds K fd ps []) : FnV P w K mg base k f' ps sp := by
  have := T.ns.symm.trans e
  cases this
  exact ⟨fd, ok, T.fn.kp, bi⟩
theorem all {P : Program} {w : World} {K : PySem.W.Frag} {mg : Str → Option Value} {h : Heap} {fa : Addr} (X : K.In h) (G : h.Ns mainGlobals mg) (hfa : mg "law" = some (.ref fa)) (N : NoneT K)
    (i1 : ∃ t, PySem.W.nsIn K mainGlobals "MOST_NUMBER" = some (some (.int 1000000 t))) (i2 : ∃ t, PySem.W.nsIn K mainGlobals "MOST_COUNTED" = some (some (.int 2000 t))) (i3 : ∃ t, PySem.W.nsIn K mainGlobals "MOST_CALLS" = some (some (.int 10 t))) (B : ∃ a, BegD P w K a) (DD : ∃ a kvs, DoiD P w K a kvs)
    (T_is_big : ∃ f fd, FnT K "is_big" (top 6) f fd) (T_bounded : ∃ f fd, FnT K "bounded" (top 7) f fd) (T_joined : ∃ f fd, FnT K "joined" (top 8) f fd) (T_look_at_depth : ∃ f fd, FnT K "look_at_depth" (top 9) f fd) (T_lay_joined : ∃ f fd, FnT K "lay_joined" (top 16) f fd) (T_do_push : ∃ f fd, FnT K "do_push" (top 13) f fd) (T_do_load : ∃ f fd, FnT K "do_load" (top 14) f fd) (T_do_store : ∃ f fd, FnT K "do_store" (top 15) f fd) (T_do_add : ∃ f fd, FnT K "do_add" (top 17) f fd) (T_do_sub : ∃ f fd, FnT K "do_sub" (top 18) f fd) (T_do_mul : ∃ f fd, FnT K "do_mul" (top 19) f fd) (T_do_less : ∃ f fd, FnT K "do_less" (top 20) f fd) (T_do_same : ∃ f fd, FnT K "do_same" (top 21) f fd) (T_do_jump : ∃ f fd, FnT K "do_jump" (top 22) f fd) (T_do_unless : ∃ f fd, FnT K "do_unless" (top 23) f fd) (T_do_call : ∃ f fd, FnT K "do_call" (top 24) f fd) (T_do_back : ∃ f fd, FnT K "do_back" (top 25) f fd) (T_do_count : ∃ f fd, FnT K "do_count" (top 26) f fd) (T_do_deeper : ∃ f fd, FnT K "do_deeper" (top 27) f fd) (T_do_hold : ∃ f fd, FnT K "do_hold" (top 28) f fd) (T_do_move : ∃ f fd, FnT K "do_move" (top 29) f fd) (T_do_stop : ∃ f fd, FnT K "do_stop" (top 30) f fd) (T_do_code : ∃ f fd, FnT K "do_code" (top 32) f fd) (T__law_take : ∃ f fd, FnT K "_law_take" (top 34) f fd) (T__law_loop : ∃ f fd, FnT K "_law_loop" (top 35) f fd) (T__law_choice : ∃ f fd, FnT K "_law_choice" (top 36) f fd) (T__law_part : ∃ f fd, FnT K "_law_part" (top 37) f fd) (T__law_code : ∃ f fd, FnT K "_law_code" (top 38) f fd) (T_law : ∃ f fd, FnT K "law" (top 39) f fd)
    (T_Stop : ∃ C f0 d0, C_Stop K C f0 d0) (T_Track : ∃ C f0 f1 f2 f3 d0 d1 d2 d3, C_Track K C f0 f1 f2 f3 d0 d1 d2 d3) (T_Machine : ∃ C f0 f1 f2 f3 d0 d1 d2 d3, C_Machine K C f0 f1 f2 f3 d0 d1 d2 d3) :
    ∃ fd : FuncData, (∀ (s : Shared) (v : Value), BindsTo s fd ⟨[v], []⟩ [("script", v)]) ∧ ∀ base : Heap, K.In base → base.Ns mainGlobals mg → FnOk P w K mg base (CX1 P w) 8 fa fd ["script"] (spLaw K) := by
  obtain ⟨t1, i1⟩ := i1
  obtain ⟨t2, i2⟩ := i2
  obtain ⟨t3, i3⟩ := i3
  obtain ⟨ab, B⟩ := B
  obtain ⟨da, kvs, DD⟩ := DD
  obtain ⟨f_is_big, d_is_big, T_is_big⟩ := T_is_big
  obtain ⟨f_bounded, d_bounded, T_bounded⟩ := T_bounded
  obtain ⟨f_joined, d_joined, T_joined⟩ := T_joined
  obtain ⟨f_look_at_depth, d_look_at_depth, T_look_at_depth⟩ := T_look_at_depth
  obtain ⟨f_lay_joined, d_lay_joined, T_lay_joined⟩ := T_lay_joined
  obtain ⟨f_do_push, d_do_push, T_do_push⟩ := T_do_push
  obtain ⟨f_do_load, d_do_load, T_do_load⟩ := T_do_load
  obtain ⟨f_do_store, d_do_store, T_do_store⟩ := T_do_store
  obtain ⟨f_do_add, d_do_add, T_do_add⟩ := T_do_add
  obtain ⟨f_do_sub, d_do_sub, T_do_sub⟩ := T_do_sub
  obtain ⟨f_do_mul, d_do_mul, T_do_mul⟩ := T_do_mul
  obtain ⟨f_do_less, d_do_less, T_do_less⟩ := T_do_less
  obtain ⟨f_do_same, d_do_same, T_do_same⟩ := T_do_same
  obtain ⟨f_do_jump, d_do_jump, T_do_jump⟩ := T_do_jump
  obtain ⟨f_do_unless, d_do_unless, T_do_unless⟩ := T_do_unless
  obtain ⟨f_do_call, d_do_call, T_do_call⟩ := T_do_call
  obtain ⟨f_do_back, d_do_back, T_do_back⟩ := T_do_back
  obtain ⟨f_do_count, d_do_count, T_do_count⟩ := T_do_count
  obtain ⟨f_do_deeper, d_do_deeper, T_do_deeper⟩ := T_do_deeper
  obtain ⟨f_do_hold, d_do_hold, T_do_hold⟩ := T_do_hold
  obtain ⟨f_do_move, d_do_move, T_do_move⟩ := T_do_move
  obtain ⟨f_do_stop, d_do_stop, T_do_stop⟩ := T_do_stop
  obtain ⟨f_do_code, d_do_code, T_do_code⟩ := T_do_code
  obtain ⟨f__law_take, d__law_take, T__law_take⟩ := T__law_take
  obtain ⟨f__law_loop, d__law_loop, T__law_loop⟩ := T__law_loop
  obtain ⟨f__law_choice, d__law_choice, T__law_choice⟩ := T__law_choice
  obtain ⟨f__law_part, d__law_part, T__law_part⟩ := T__law_part
  obtain ⟨f__law_code, d__law_code, T__law_code⟩ := T__law_code
  obtain ⟨f_law, d_law, T_law⟩ := T_law
  obtain ⟨C, fI, dI, S⟩ := T_Stop
  obtain ⟨CT, a0, a1, a2, a3, b0, b1, b2, b3, TR⟩ := T_Track
  obtain ⟨CM, m0, m1, m2, m3, n0, n1, n2, n3, MA⟩ := T_Machine
  have e := hfa.symm.trans (PySem.W.mg_of X G T_law.ns)
  cases e
  refine ⟨d_law, ?_, fun base _ _ => ?_⟩
  · obtain ⟨oc, od, kV, doc, pm, an, cdv, ct, osl, rfl, lk, hcd⟩ := T_law.fn.ex
    exact fun s v => .of_eq rfl
  have L : LawT mg := ⟨PySem.W.mg_none_of X G N.len, PySem.W.mg_none_of X G N.max, PySem.W.mg_none_of X G N.min, PySem.W.mg_none_of X G N.range, PySem.W.mg_none_of X G N.isin, PySem.W.mg_none_of X G N.abs, PySem.W.mg_none_of X G N.tuple, PySem.W.mg_none_of X G N.list, PySem.W.mg_none_of X G N.bool, PySem.W.mg_none_of X G N.int⟩
  have NE := PySem.W.mg_none_of X G N.enum
  have NZ := PySem.W.mg_none_of X G N.zip
  have NS := PySem.W.mg_none_of X G N.sum
  have ND := PySem.W.mg_none_of X G N.dict
  have T : MT K mg CM CT := ⟨MA.cl, TR.cl, MA.n_place, MA.n_heap, MA.n_frames, MA.n_returns, MA.n_track, TR.n_moves, TR.n_places, TR.n_counted, L.len, ND, L.range, ⟨t2, PySem.W.mg_of X G i2⟩⟩
  have SC : StopC K mg "Stop" C fI "end" := ⟨PySem.W.mg_of X G S.ns, S.obj, S.ty, look_end⟩
  have bI := S.fn.binds (ps := ["self", "end"]) fun _ _ _ _ _ _ us hl => match us, hl with | [_, _], _ => rfl
  have ST : StopT P w K mg base C fI dI := ⟨SC, ok_stop (k := 0) SC S.fn, bI, ⟨t1, PySem.W.mg_of X G i1⟩⟩
  have CC : CatchC K mg "Stop" C := ⟨PySem.W.mg_of X G S.ns, S.cobj, S.exc⟩
  have FI := T_is_big.fnB (P := P) (w := w) (base := base) X G (ok_isBig ⟨t1, PySem.W.mg_of X G i1⟩ T_is_big.fn) (T_is_big.fn.binds fun _ _ _ _ _ _ us hl => match us, hl with | [_], _ => rfl)
  have FB := T_bounded.fnB (P := P) (w := w) (base := base) X G (ok_bounded ST FI T_bounded.fn) (T_bounded.fn.binds fun _ _ _ _ _ _ us hl => match us, hl with | [_], _ => rfl)
  have FJ := T_joined.fnB (P := P) (w := w) (base := base) X G (ok_joined T_joined.fn) (T_joined.fn.binds fun _ _ _ _ _ _ us hl => match us, hl with | [_, _, _], _ => rfl)
  have FDp := T_look_at_depth.fnB (P := P) (w := w) (base := base) X G (ok_depth ST ⟨t3, PySem.W.mg_of X G i3⟩ T_look_at_depth.fn) (T_look_at_depth.fn.binds fun _ _ _ _ _ _ us hl => match us, hl with | [_], _ => rfl)
  have M1 : Mt P w K mg base CT "count_one" 3 ["self"] (spOne K C CM CT) := ⟨a1, b1, ok_one T ST TR.fn_count_one, TR.mt_count_one, TR.cl, (TR.fn_count_one.binds fun _ _ _ _ _ _ us hl => match us, hl with | [_], _ => rfl)⟩
  have MH : Mt P w K mg base CT "make_hold" 1 ["self", "number"] (spHold CM CT) := ⟨a2, b2, ok_mhold T TR.fn_make_hold, TR.mt_make_hold, TR.cl, (TR.fn_make_hold.binds fun _ _ _ _ _ _ us hl => match us, hl with | [_, _], _ => rfl)⟩
  have MM : Mt P w K mg base CT "make_move" 4 ["self", "kind", "axis", "number", "by"] (spMove K C CM CT) := ⟨a3, b3, ok_mmove T FB TR.fn_make_move, TR.mt_make_move, TR.cl, (TR.fn_make_move.binds fun _ _ _ _ _ _ us hl => match us, hl with | [_, _, _, _, _], _ => rfl)⟩
  have MTk : Mt P w K mg base CM "take" 1 ["self"] (spTake CM CT) := ⟨m2, n2, ok_take T MA.fn_take, MA.mt_take, MA.cl, (MA.fn_take.binds fun _ _ _ _ _ _ us hl => match us, hl with | [_], _ => rfl)⟩
  have MMn : Mt P w K mg base CM "take_many" 2 ["self", "many"] (spMany CM CT) := ⟨m3, n3, ok_many T MTk MA.fn_take_many, MA.mt_take_many, MA.cl, (MA.fn_take_many.binds fun _ _ _ _ _ _ us hl => match us, hl with | [_, _], _ => rfl)⟩
  have FL := T_lay_joined.fnB (P := P) (w := w) (base := base) X G (ok_lay T MMn FB FJ T_lay_joined.fn) (T_lay_joined.fn.binds fun _ _ _ _ _ _ us hl => match us, hl with | [_, _], _ => rfl)
  obtain ⟨g_push, gn_push, gv_push⟩ := DD.at_ ("push", "do_push") (by simp)
  have V_push := T_do_push.fnV (P := P) (w := w) (mg := mg) (base := base) gn_push (ok_dpush (C := C) T T_do_push.fn) (T_do_push.fn.binds fun _ _ _ _ _ _ us hl => match us, hl with | [_, _], _ => rfl)
  obtain ⟨g_load, gn_load, gv_load⟩ := DD.at_ ("load", "do_load") (by simp)
  have V_load := T_do_load.fnV (P := P) (w := w) (mg := mg) (base := base) gn_load (ok_dload T ST T_do_load.fn) (T_do_load.fn.binds fun _ _ _ _ _ _ us hl => match us, hl with | [_, _], _ => rfl)
  obtain ⟨g_store, gn_store, gv_store⟩ := DD.at_ ("store", "do_store") (by simp)
  have V_store := T_do_store.fnV (P := P) (w := w) (mg := mg) (base := base) gn_store (ok_dstore (C := C) T MTk T_do_store.fn) (T_do_store.fn.binds fun _ _ _ _ _ _ us hl => match us, hl with | [_, _], _ => rfl)
  obtain ⟨g_add, gn_add, gv_add⟩ := DD.at_ ("add", "do_add") (by simp)
  have V_add := T_do_add.fnV (P := P) (w := w) (mg := mg) (base := base) gn_add (ok_dadd FL T_do_add.fn) (T_do_add.fn.binds fun _ _ _ _ _ _ us hl => match us, hl with | [_, _], _ => rfl)
  obtain ⟨g_sub, gn_sub, gv_sub⟩ := DD.at_ ("sub", "do_sub") (by simp)
  have V_sub := T_do_sub.fnV (P := P) (w := w) (mg := mg) (base := base) gn_sub (ok_dsub FL T_do_sub.fn) (T_do_sub.fn.binds fun _ _ _ _ _ _ us hl => match us, hl with | [_, _], _ => rfl)
  obtain ⟨g_mul, gn_mul, gv_mul⟩ := DD.at_ ("mul", "do_mul") (by simp)
  have V_mul := T_do_mul.fnV (P := P) (w := w) (mg := mg) (base := base) gn_mul (ok_dmul FL T_do_mul.fn) (T_do_mul.fn.binds fun _ _ _ _ _ _ us hl => match us, hl with | [_, _], _ => rfl)
  obtain ⟨g_less, gn_less, gv_less⟩ := DD.at_ ("less", "do_less") (by simp)
  have V_less := T_do_less.fnV (P := P) (w := w) (mg := mg) (base := base) gn_less (ok_dless (C := C) T MMn T_do_less.fn) (T_do_less.fn.binds fun _ _ _ _ _ _ us hl => match us, hl with | [_, _], _ => rfl)
  obtain ⟨g_same, gn_same, gv_same⟩ := DD.at_ ("same", "do_same") (by simp)
  have V_same := T_do_same.fnV (P := P) (w := w) (mg := mg) (base := base) gn_same (ok_dsame (C := C) T MMn T_do_same.fn) (T_do_same.fn.binds fun _ _ _ _ _ _ us hl => match us, hl with | [_, _], _ => rfl)
  obtain ⟨g_count, gn_count, gv_count⟩ := DD.at_ ("count", "do_count") (by simp)
  have V_count := T_do_count.fnV (P := P) (w := w) (mg := mg) (base := base) gn_count (ok_dcount T M1 T_do_count.fn) (T_do_count.fn.binds fun _ _ _ _ _ _ us hl => match us, hl with | [_, _], _ => rfl)
  obtain ⟨g_deeper, gn_deeper, gv_deeper⟩ := DD.at_ ("deeper", "do_deeper") (by simp)
  have V_deeper := T_do_deeper.fnV (P := P) (w := w) (mg := mg) (base := base) gn_deeper (ok_ddeeper T FDp T_do_deeper.fn) (T_do_deeper.fn.binds fun _ _ _ _ _ _ us hl => match us, hl with | [_, _], _ => rfl)
  obtain ⟨g_hold, gn_hold, gv_hold⟩ := DD.at_ ("hold", "do_hold") (by simp)
  have V_hold := T_do_hold.fnV (P := P) (w := w) (mg := mg) (base := base) gn_hold (ok_dhold (C := C) T MTk MH T_do_hold.fn) (T_do_hold.fn.binds fun _ _ _ _ _ _ us hl => match us, hl with | [_, _], _ => rfl)
  obtain ⟨g_move, gn_move, gv_move⟩ := DD.at_ ("move", "do_move") (by simp)
  have V_move := T_do_move.fnV (P := P) (w := w) (mg := mg) (base := base) gn_move (ok_dmove T MTk MM T_do_move.fn) (T_do_move.fn.binds fun _ _ _ _ _ _ us hl => match us, hl with | [_, _], _ => rfl)
  obtain ⟨g_stop, gn_stop, gv_stop⟩ := DD.at_ ("stop", "do_stop") (by simp)
  have V_stop := T_do_stop.fnV (P := P) (w := w) (mg := mg) (base := base) gn_stop (ok_dstop (CM := CM) (CT := CT) ST T_do_stop.fn) (T_do_stop.fn.binds fun _ _ _ _ _ _ us hl => match us, hl with | [_, _], _ => rfl)
  obtain ⟨g_jump, gn_jump, gv_jump⟩ := DD.at_ ("jump", "do_jump") (by simp)
  have V_jump := T_do_jump.fnV (P := P) (w := w) (mg := mg) (base := base) gn_jump (ok_djump (C := C) T T_do_jump.fn) (T_do_jump.fn.binds fun _ _ _ _ _ _ us hl => match us, hl with | [_, _], _ => rfl)
  obtain ⟨g_unless, gn_unless, gv_unless⟩ := DD.at_ ("unless", "do_unless") (by simp)
  have V_unless := T_do_unless.fnV (P := P) (w := w) (mg := mg) (base := base) gn_unless (ok_dunless (C := C) T MTk T_do_unless.fn) (T_do_unless.fn.binds fun _ _ _ _ _ _ us hl => match us, hl with | [_, _], _ => rfl)
  obtain ⟨g_call, gn_call, gv_call⟩ := DD.at_ ("call", "do_call") (by simp)
  have V_call := T_do_call.fnV (P := P) (w := w) (mg := mg) (base := base) gn_call (ok_dcall (C := C) T NZ MMn T_do_call.fn) (T_do_call.fn.binds fun _ _ _ _ _ _ us hl => match us, hl with | [_, _], _ => rfl)
  obtain ⟨g_back, gn_back, gv_back⟩ := DD.at_ ("back", "do_back") (by simp)
  have V_back := T_do_back.fnV (P := P) (w := w) (mg := mg) (base := base) gn_back (ok_dback (C := C) T T_do_back.fn) (T_do_back.fn.binds fun _ _ _ _ _ _ us hl => match us, hl with | [_, _], _ => rfl)
  have DT : DoT P w K mg base C CM CT := ⟨da, kvs, PySem.W.mg_of X G DD.ns, DD.dk, fun r rk => by
    cases r with
    | push n => exact ⟨_, _, gv_push, V_push, n, rfl⟩
    | load x => exact ⟨_, _, gv_load, V_load, x, rfl⟩
    | store x => exact ⟨_, _, gv_store, V_store, x, rfl⟩
    | join s =>
      rcases rk with rfl | rfl | rfl
      · exact ⟨_, _, gv_add, V_add, rfl⟩
      · exact ⟨_, _, gv_sub, V_sub, rfl⟩
      · exact ⟨_, _, gv_mul, V_mul, rfl⟩
    | comp s =>
      rcases rk with rfl | rfl
      · exact ⟨_, _, gv_less, V_less, rfl⟩
      · exact ⟨_, _, gv_same, V_same, rfl⟩
    | count => exact ⟨_, _, gv_count, V_count, rfl⟩
    | deeper => exact ⟨_, _, gv_deeper, V_deeper, rfl⟩
    | hold => exact ⟨_, _, gv_hold, V_hold, rfl⟩
    | move m a b => exact ⟨_, _, gv_move, V_move, m, a, b, rfl⟩
    | stop => exact ⟨_, _, gv_stop, V_stop, rfl⟩
    | jump k => exact ⟨_, _, gv_jump, V_jump, k, rfl⟩
    | «unless» k => exact ⟨_, _, gv_unless, V_unless, k, rfl⟩
    | call k ns => exact ⟨_, _, gv_call, V_call, k, ns, rfl⟩
    | back => exact ⟨_, _, gv_back, V_back, rfl⟩⟩
  have MS : Mt P w K mg base CM "step" 6 ["self", "code"] (spStep K C CM CT) := ⟨m1, n1, ok_step T DT MA.fn_step, MA.mt_step, MA.cl, (MA.fn_step.binds fun _ _ _ _ _ _ us hl => match us, hl with | [_, _], _ => rfl)⟩
  have MTr : Mc P w K mg base "Track" CT 1 ["self"] (spTrackI CT) := ⟨a0, b0, ok_trackI T ⟨ab, PySem.W.mg_of X G B.ns, B.dk⟩ TR.fn___init__, TR.mks, PySem.W.mg_of X G TR.ns, (TR.fn___init__.binds fun _ _ _ _ _ _ us hl => match us, hl with | [_], _ => rfl)⟩
  have MMc : Mc P w K mg base "Machine" CM 3 ["self"] (spMachI CM CT) := ⟨m0, n0, ok_machI T MTr MA.fn___init__, MA.mks, PySem.W.mg_of X G MA.ns, (MA.fn___init__.binds fun _ _ _ _ _ _ us hl => match us, hl with | [_], _ => rfl)⟩
  have FDo := T_do_code.fnB (P := P) (w := w) (base := base) X G (ok_doCode T ST CC S.own MMc MS T_do_code.fn) (T_do_code.fn.binds fun _ _ _ _ _ _ us hl => match us, hl with | [_], _ => rfl)
  have F1 := T__law_take.fnB (P := P) (w := w) (base := base) X G (ok_tk T__law_take.fn) (T__law_take.fn.binds fun _ _ _ _ _ _ us hl => match us, hl with | [_, _], _ => rfl)
  have F2 := T__law_loop.fnB (P := P) (w := w) (base := base) X G (ok_loop L T__law_loop.fn) (T__law_loop.fn.binds fun _ _ _ _ _ _ us hl => match us, hl with | [_, _, _], _ => rfl)
  have F3 := T__law_choice.fnB (P := P) (w := w) (base := base) X G (ok_choice L T__law_choice.fn) (T__law_choice.fn.binds fun _ _ _ _ _ _ us hl => match us, hl with | [_, _, _, _], _ => rfl)
  have F4 := T__law_part.fnB (P := P) (w := w) (base := base) X G (ok_part L F1 F2 F3 T__law_part.fn) (T__law_part.fn.binds fun _ _ _ _ _ _ us hl => match us, hl with | [_, _, _, _], _ => rfl)
  have F5 := T__law_code.fnB (P := P) (w := w) (base := base) X G (ok_code L NS NE F2 F4 T__law_code.fn) (T__law_code.fn.binds fun _ _ _ _ _ _ us hl => match us, hl with | [_], _ => rfl)
  exact ok_law L F5 FDo T_law.fn
theorem walk {l : PySem.W.OpenLaw} {q : Program} {loose : List Str} {XP : (Str → Option Value) → Heap → Prop} {YP : World → Heap → Prop} {d : DefRec} {K : Params → PySem.W.Frag} (hn : l.most = some 63) (hdf : d.params.defaults = [])
    (hY : ∀ (w : World) (h : Heap), YP w h → (K w.params).In h)
    (F : ∀ (w : World) (mg : Str → Option Value) (fa : Addr) (h : Heap), (K w.params).In h → h.Ns mainGlobals mg → mg d.name = some (.ref fa) →
      ∃ fd : FuncData, (∀ (s : Shared) (u : Value), BindsTo s fd ⟨[u], []⟩ [("script", u)]) ∧ ∀ base : Heap, (K w.params).In base → base.Ns mainGlobals mg → FnOk l.prog w (K w.params) mg base (CX1 l.prog w) 8 fa fd ["script"] (spLaw (K w.params))) :
    PySem.W.WalkO q loose XP YP l.row.toRowW d [] (fun f vs => PySem.call f vs) :=
  L2.walk_of (n := 63) (k := 8) (x := "script") (CX := fun w => CX1 l.prog w) (sp := fun w => spLaw (K w.params)) hn (by decide) hdf ⟨rfl, by decide, by decide⟩ hY F (fun _ _ a ns hl _ hS => ⟨a, ns, rfl, hS, hl, fun _ => rfl⟩) fun _ _ _ _ _ z => by
    obtain ⟨_, _, _, _, _, _, _, _, _, _, _, _, _, _, _, ff⟩ := z
    exact ff
end Car
open PySem PySem.W PyProof.Rows
set_option maxRecDepth 100000 in
set_option maxHeartbeats 0 in
theorem PySem.Challenge.cw_carvebed_k18_whole_loops_and_ways_holds : PySem.Challenge.rw_carvebed_k18_whole_loops_and_ways.Holds := by
  w_on; o_law; k_head; (case hw => w_witness2)
  k_fill
  refine Car.walk (l := PySem.Challenge.rw_carvebed_k18_whole_loops_and_ways) rfl rfl (fun w h Y => PySem.W.kIn_of Y) ?F
  case F =>
    intro w mg fa h KX G hmg
    have T_is_big : ∃ f fd, Car.FnT (L2.KOf KX) "is_big" (Car.top 6) f fd := by
      dsimp only [L2.KOf]
      refine' Car.fnT_mk ?a ?l ?c ?k
      (case a => k_is); (case l => k_is); (case c => k_is); (case k => k_is)
    have T_bounded : ∃ f fd, Car.FnT (L2.KOf KX) "bounded" (Car.top 7) f fd := by
      dsimp only [L2.KOf]
      refine' Car.fnT_mk ?a ?l ?c ?k
      (case a => k_is); (case l => k_is); (case c => k_is); (case k => k_is)
    have T_joined : ∃ f fd, Car.FnT (L2.KOf KX) "joined" (Car.top 8) f fd := by
      dsimp only [L2.KOf]
      refine' Car.fnT_mk ?a ?l ?c ?k
      (case a => k_is); (case l => k_is); (case c => k_is); (case k => k_is)
    have T_look_at_depth : ∃ f fd, Car.FnT (L2.KOf KX) "look_at_depth" (Car.top 9) f fd := by
      dsimp only [L2.KOf]
      refine' Car.fnT_mk ?a ?l ?c ?k
      (case a => k_is); (case l => k_is); (case c => k_is); (case k => k_is)
    have T_Track : ∃ C f0 f1 f2 f3 d0 d1 d2 d3, Car.C_Track (L2.KOf KX) C f0 f1 f2 f3 d0 d1 d2 d3 := by
      dsimp only [L2.KOf]
      refine' Car.C_Track_mk ?aC ?a0 ?i0 ?l0 ?c0 ?k0 ?a1 ?i1 ?l1 ?c1 ?k1 ?a2 ?i2 ?l2 ?c2 ?k2 ?a3 ?i3 ?l3 ?c3 ?k3 ?pg ?hd ?po ?sa ?mk ?kc ?n0 ?n1 ?n2
      (case aC => k_is); (case a0 => k_is); (case i0 => k_is); (case l0 => k_is); (case c0 => k_is); (case k0 => k_is); (case a1 => k_is); (case i1 => k_is); (case l1 => k_is); (case c1 => k_is); (case k1 => k_is); (case a2 => k_is); (case i2 => k_is); (case l2 => k_is); (case c2 => k_is); (case k2 => k_is); (case a3 => k_is); (case i3 => k_is); (case l3 => k_is); (case c3 => k_is); (case k3 => k_is); (case pg => k_is); (case hd => k_is); (case po => k_is); (case sa => k_is); (case mk => k_is); (case kc => k_is); (case n0 => k_is); (case n1 => k_is); (case n2 => k_is)
    have T_Machine : ∃ C f0 f1 f2 f3 d0 d1 d2 d3, Car.C_Machine (L2.KOf KX) C f0 f1 f2 f3 d0 d1 d2 d3 := by
      dsimp only [L2.KOf]
      refine' Car.C_Machine_mk ?aC ?a0 ?i0 ?l0 ?c0 ?k0 ?a1 ?i1 ?l1 ?c1 ?k1 ?a2 ?i2 ?l2 ?c2 ?k2 ?a3 ?i3 ?l3 ?c3 ?k3 ?pg ?hd ?po ?sa ?mk ?kc ?n0 ?n1 ?n2 ?n3 ?n4
      (case aC => k_is); (case a0 => k_is); (case i0 => k_is); (case l0 => k_is); (case c0 => k_is); (case k0 => k_is); (case a1 => k_is); (case i1 => k_is); (case l1 => k_is); (case c1 => k_is); (case k1 => k_is); (case a2 => k_is); (case i2 => k_is); (case l2 => k_is); (case c2 => k_is); (case k2 => k_is); (case a3 => k_is); (case i3 => k_is); (case l3 => k_is); (case c3 => k_is); (case k3 => k_is); (case pg => k_is); (case hd => k_is); (case po => k_is); (case sa => k_is); (case mk => k_is); (case kc => k_is); (case n0 => k_is); (case n1 => k_is); (case n2 => k_is); (case n3 => k_is); (case n4 => k_is)
    have T_do_push : ∃ f fd, Car.FnT (L2.KOf KX) "do_push" (Car.top 13) f fd := by
      dsimp only [L2.KOf]
      refine' Car.fnT_mk ?a ?l ?c ?k
      (case a => k_is); (case l => k_is); (case c => k_is); (case k => k_is)
    have T_do_load : ∃ f fd, Car.FnT (L2.KOf KX) "do_load" (Car.top 14) f fd := by
      dsimp only [L2.KOf]
      refine' Car.fnT_mk ?a ?l ?c ?k
      (case a => k_is); (case l => k_is); (case c => k_is); (case k => k_is)
    have T_do_store : ∃ f fd, Car.FnT (L2.KOf KX) "do_store" (Car.top 15) f fd := by
      dsimp only [L2.KOf]
      refine' Car.fnT_mk ?a ?l ?c ?k
      (case a => k_is); (case l => k_is); (case c => k_is); (case k => k_is)
    have T_lay_joined : ∃ f fd, Car.FnT (L2.KOf KX) "lay_joined" (Car.top 16) f fd := by
      dsimp only [L2.KOf]
      refine' Car.fnT_mk ?a ?l ?c ?k
      (case a => k_is); (case l => k_is); (case c => k_is); (case k => k_is)
    have T_do_add : ∃ f fd, Car.FnT (L2.KOf KX) "do_add" (Car.top 17) f fd := by
      dsimp only [L2.KOf]
      refine' Car.fnT_mk ?a ?l ?c ?k
      (case a => k_is); (case l => k_is); (case c => k_is); (case k => k_is)
    have T_do_sub : ∃ f fd, Car.FnT (L2.KOf KX) "do_sub" (Car.top 18) f fd := by
      dsimp only [L2.KOf]
      refine' Car.fnT_mk ?a ?l ?c ?k
      (case a => k_is); (case l => k_is); (case c => k_is); (case k => k_is)
    have T_do_mul : ∃ f fd, Car.FnT (L2.KOf KX) "do_mul" (Car.top 19) f fd := by
      dsimp only [L2.KOf]
      refine' Car.fnT_mk ?a ?l ?c ?k
      (case a => k_is); (case l => k_is); (case c => k_is); (case k => k_is)
    have T_do_less : ∃ f fd, Car.FnT (L2.KOf KX) "do_less" (Car.top 20) f fd := by
      dsimp only [L2.KOf]
      refine' Car.fnT_mk ?a ?l ?c ?k
      (case a => k_is); (case l => k_is); (case c => k_is); (case k => k_is)
    have T_do_same : ∃ f fd, Car.FnT (L2.KOf KX) "do_same" (Car.top 21) f fd := by
      dsimp only [L2.KOf]
      refine' Car.fnT_mk ?a ?l ?c ?k
      (case a => k_is); (case l => k_is); (case c => k_is); (case k => k_is)
    have T_do_jump : ∃ f fd, Car.FnT (L2.KOf KX) "do_jump" (Car.top 22) f fd := by
      dsimp only [L2.KOf]
      refine' Car.fnT_mk ?a ?l ?c ?k
      (case a => k_is); (case l => k_is); (case c => k_is); (case k => k_is)
    have T_do_unless : ∃ f fd, Car.FnT (L2.KOf KX) "do_unless" (Car.top 23) f fd := by
      dsimp only [L2.KOf]
      refine' Car.fnT_mk ?a ?l ?c ?k
      (case a => k_is); (case l => k_is); (case c => k_is); (case k => k_is)
    have T_do_call : ∃ f fd, Car.FnT (L2.KOf KX) "do_call" (Car.top 24) f fd := by
      dsimp only [L2.KOf]
      refine' Car.fnT_mk ?a ?l ?c ?k
      (case a => k_is); (case l => k_is); (case c => k_is); (case k => k_is)
    have T_do_back : ∃ f fd, Car.FnT (L2.KOf KX) "do_back" (Car.top 25) f fd := by
      dsimp only [L2.KOf]
      refine' Car.fnT_mk ?a ?l ?c ?k
      (case a => k_is); (case l => k_is); (case c => k_is); (case k => k_is)
    have T_do_count : ∃ f fd, Car.FnT (L2.KOf KX) "do_count" (Car.top 26) f fd := by
      dsimp only [L2.KOf]
      refine' Car.fnT_mk ?a ?l ?c ?k
      (case a => k_is); (case l => k_is); (case c => k_is); (case k => k_is)
    have T_do_deeper : ∃ f fd, Car.FnT (L2.KOf KX) "do_deeper" (Car.top 27) f fd := by
      dsimp only [L2.KOf]
      refine' Car.fnT_mk ?a ?l ?c ?k
      (case a => k_is); (case l => k_is); (case c => k_is); (case k => k_is)
    have T_do_hold : ∃ f fd, Car.FnT (L2.KOf KX) "do_hold" (Car.top 28) f fd := by
      dsimp only [L2.KOf]
      refine' Car.fnT_mk ?a ?l ?c ?k
      (case a => k_is); (case l => k_is); (case c => k_is); (case k => k_is)
    have T_do_move : ∃ f fd, Car.FnT (L2.KOf KX) "do_move" (Car.top 29) f fd := by
      dsimp only [L2.KOf]
      refine' Car.fnT_mk ?a ?l ?c ?k
      (case a => k_is); (case l => k_is); (case c => k_is); (case k => k_is)
    have T_do_stop : ∃ f fd, Car.FnT (L2.KOf KX) "do_stop" (Car.top 30) f fd := by
      dsimp only [L2.KOf]
      refine' Car.fnT_mk ?a ?l ?c ?k
      (case a => k_is); (case l => k_is); (case c => k_is); (case k => k_is)
    have T_do_code : ∃ f fd, Car.FnT (L2.KOf KX) "do_code" (Car.top 32) f fd := by
      dsimp only [L2.KOf]
      refine' Car.fnT_mk ?a ?l ?c ?k
      (case a => k_is); (case l => k_is); (case c => k_is); (case k => k_is)
    have T__law_take : ∃ f fd, Car.FnT (L2.KOf KX) "_law_take" (Car.top 34) f fd := by
      dsimp only [L2.KOf]
      refine' Car.fnT_mk ?a ?l ?c ?k
      (case a => k_is); (case l => k_is); (case c => k_is); (case k => k_is)
    have T__law_loop : ∃ f fd, Car.FnT (L2.KOf KX) "_law_loop" (Car.top 35) f fd := by
      dsimp only [L2.KOf]
      refine' Car.fnT_mk ?a ?l ?c ?k
      (case a => k_is); (case l => k_is); (case c => k_is); (case k => k_is)
    have T__law_choice : ∃ f fd, Car.FnT (L2.KOf KX) "_law_choice" (Car.top 36) f fd := by
      dsimp only [L2.KOf]
      refine' Car.fnT_mk ?a ?l ?c ?k
      (case a => k_is); (case l => k_is); (case c => k_is); (case k => k_is)
    have T__law_part : ∃ f fd, Car.FnT (L2.KOf KX) "_law_part" (Car.top 37) f fd := by
      dsimp only [L2.KOf]
      refine' Car.fnT_mk ?a ?l ?c ?k
      (case a => k_is); (case l => k_is); (case c => k_is); (case k => k_is)
    have T__law_code : ∃ f fd, Car.FnT (L2.KOf KX) "_law_code" (Car.top 38) f fd := by
      dsimp only [L2.KOf]
      refine' Car.fnT_mk ?a ?l ?c ?k
      (case a => k_is); (case l => k_is); (case c => k_is); (case k => k_is)
    have T_law : ∃ f fd, Car.FnT (L2.KOf KX) "law" (Car.top 39) f fd := by
      dsimp only [L2.KOf]
      refine' Car.fnT_mk ?a ?l ?c ?k
      (case a => k_is); (case l => k_is); (case c => k_is); (case k => k_is)
    have N : Car.NoneT (L2.KOf KX) := by
      dsimp only [L2.KOf]
      refine' ⟨?n0, ?n1, ?n2, ?n3, ?n4, ?n5, ?n6, ?n7, ?n8, ?n9, ?n10, ?n11, ?n12, ?n13⟩
      (case n0 => k_is); (case n1 => k_is); (case n2 => k_is); (case n3 => k_is); (case n4 => k_is); (case n5 => k_is); (case n6 => k_is); (case n7 => k_is); (case n8 => k_is); (case n9 => k_is); (case n10 => k_is); (case n11 => k_is); (case n12 => k_is); (case n13 => k_is)
    have i1 : ∃ t, PySem.W.nsIn (L2.KOf KX) mainGlobals "MOST_NUMBER" = some (some (.int 1000000 t)) := by
      dsimp only [L2.KOf]
      refine' Car.int_mk ?a
      (case a => k_is)
    have i2 : ∃ t, PySem.W.nsIn (L2.KOf KX) mainGlobals "MOST_COUNTED" = some (some (.int 2000 t)) := by
      dsimp only [L2.KOf]
      refine' Car.int_mk ?a
      (case a => k_is)
    have i3 : ∃ t, PySem.W.nsIn (L2.KOf KX) mainGlobals "MOST_CALLS" = some (some (.int 10 t)) := by
      dsimp only [L2.KOf]
      refine' Car.int_mk ?a
      (case a => k_is)
    have B : ∃ a, Car.BegD PySem.Challenge.rw_carvebed_k18_whole_loops_and_ways.prog w (L2.KOf KX) a := by
      dsimp only [L2.KOf]
      refine' Car.beg_mk ?n ?l ?e1 ?e2 ?e3 ?hs
      (case n => k_is); (case l => k_is); (case e1 => rfl); (case e2 => rfl); (case e3 => rfl); (case hs => decide)
    have T_Stop : ∃ C f0 d0, Car.C_Stop (L2.KOf KX) C f0 d0 := by
      dsimp only [L2.KOf]
      refine' Car.C_Stop_mk ?aC ?o1 ?o2 ?o3 ?a0 ?n1 ?n2 ?n3 ?n4 ?l0 ?c0 ?k ?ty ?co ?ex ?ow
      (case aC => k_is); (case o1 => k_is); (case o2 => k_is); (case o3 => rfl); (case a0 => k_is); (case n1 => k_is); (case n2 => k_is); (case n3 => k_is); (case n4 => k_is); (case l0 => k_is); (case c0 => k_is); (case k => k_is); (case ty => k_is); (case co => k_is); (case ex => k_is); (case ow => k_is)
    have DD : ∃ a kvs, Car.DoiD PySem.Challenge.rw_carvebed_k18_whole_loops_and_ways.prog w (L2.KOf KX) a kvs := by
      dsimp only [L2.KOf]
      refine' Car.doi_mk ?n ?l ?e1 ?e2 ?e3 ?e4 ?e5 ?e6 ?e7 ?e8 ?e9 ?e10 ?e11 ?e12 ?e13 ?e14 ?e15 ?e16 ?e17 ?hs ?g1 ?g2 ?g3 ?g4 ?g5 ?g6 ?g7 ?g8 ?g9 ?g10 ?g11 ?g12 ?g13 ?g14 ?g15 ?g16 ?g17
      (case n => k_is); (case l => k_is); (case e1 => rfl); (case e2 => rfl); (case e3 => rfl); (case e4 => rfl); (case e5 => rfl); (case e6 => rfl); (case e7 => rfl); (case e8 => rfl); (case e9 => rfl); (case e10 => rfl); (case e11 => rfl); (case e12 => rfl); (case e13 => rfl); (case e14 => rfl); (case e15 => rfl); (case e16 => rfl); (case e17 => rfl); (case hs => decide); (case g1 => k_is); (case g2 => k_is); (case g3 => k_is); (case g4 => k_is); (case g5 => k_is); (case g6 => k_is); (case g7 => k_is); (case g8 => k_is); (case g9 => k_is); (case g10 => k_is); (case g11 => k_is); (case g12 => k_is); (case g13 => k_is); (case g14 => k_is); (case g15 => k_is); (case g16 => k_is); (case g17 => k_is)
    exact Car.all KX G hmg N i1 i2 i3 B DD T_is_big T_bounded T_joined T_look_at_depth T_lay_joined T_do_push T_do_load T_do_store T_do_add T_do_sub T_do_mul T_do_less T_do_same T_do_jump T_do_unless T_do_call T_do_back T_do_count T_do_deeper T_do_hold T_do_move T_do_stop T_do_code T__law_take T__law_loop T__law_choice T__law_part T__law_code T_law T_Stop T_Track T_Machine
#print axioms PySem.Challenge.cw_carvebed_k18_whole_loops_and_ways_holds

