import PyProof.Rows.All
import Wide.All
import OpenK.AllK
import Wide.FinOn
import Lean
import PyProof.EqAt
import PyProof.EqKinds
import PyProof.TupleCall
import PySem.Challenge.RW_carvebed_k07_faults_together
set_option Elab.async false
set_option linter.all false
set_option maxRecDepth 100000
-- CHANGE: your row's module here, as the last of these rows
/-! THE HAND LAYER, for ints, bools, texts, own classes, LISTS and tuples (index, slices, in, append, pop ..), calls, loops. Paste it whole ahead of your own text; what your proof does not reach may be deleted. -/
namespace L2
open PySem PySem.Spec PyProof.Rows

/-- a key: an int or a str -/
noncomputable abbrev Key := Sum Int Str
noncomputable def keyIs : Key → Value → Bool
  | .inl k, v => Value.isInt k v
  | .inr x, v => Value.isStrOf x v
noncomputable def keyH (w : World) : Key → Int
  | .inl k => hashInt k
  | .inr x => hashStr w x
theorem keyIs_shape : ∀ {k : Key} {v : Value}, keyIs k v = true → (∃ i t, k = Sum.inl i ∧ v = Value.int i t) ∨ (∃ x t, k = Sum.inr x ∧ v = Value.str x t)
  | .inl i, v, h => by
    obtain ⟨t, e⟩ := Value.isInt_shape (k := i) (v := v) h
    exact .inl ⟨i, t, rfl, e⟩
  | .inr x, v, h => by
    obtain ⟨t, e⟩ := Value.isStrOf_shape (x := x) (v := v) h
    exact .inr ⟨x, t, rfl, e⟩
theorem keyIs_int (i : Int) (t : Tok) : keyIs (.inl i) (.int i t) = true := by simp [keyIs, Value.isInt]
theorem keyIs_str (x : Str) (t : Tok) : keyIs (.inr x) (.str x t) = true := by simp [keyIs, Value.isStrOf]
theorem key_ll (a b : Int) : decide ((Sum.inl a : Key) = Sum.inl b) = (a == b) := by
  by_cases e : a = b
  · subst e; simp
  · have h : ¬ (Sum.inl a : Key) = Sum.inl b := fun q => e (Sum.inl.inj q)
    rw [decide_eq_false h]
    exact (beq_eq_false_iff_ne.mpr e).symm
theorem key_rr (a b : Str) : decide ((Sum.inr a : Key) = Sum.inr b) = decide (a = b) := by
  by_cases e : a = b
  · subst e; simp
  · have h : ¬ (Sum.inr a : Key) = Sum.inr b := fun q => e (Sum.inr.inj q)
    rw [decide_eq_false h, decide_eq_false e]
theorem key_lr (a : Int) (b : Str) : decide ((Sum.inl a : Key) = Sum.inr b) = false := decide_eq_false (fun q => nomatch q)
theorem key_rl (a : Str) (b : Int) : decide ((Sum.inr a : Key) = Sum.inl b) = false := decide_eq_false (fun q => nomatch q)

noncomputable def mixKind (prog : Program) (w : World) : PySem.KeyKind prog w Key where
  is := keyIs
  hash := keyH w
  inj := fun v a b ha hb => by
    rcases keyIs_shape ha with ⟨i, t, rfl, rfl⟩ | ⟨x, t, rfl, rfl⟩
    · rcases keyIs_shape hb with ⟨j, u, rfl, e⟩ | ⟨y, u, rfl, e⟩
      · injection e with e1 _; rw [e1]
      · exact nomatch e
    · rcases keyIs_shape hb with ⟨j, u, rfl, e⟩ | ⟨y, u, rfl, e⟩
      · exact nomatch e
      · injection e with e1 _; rw [e1]
  byValue := fun k v h => by
    rcases keyIs_shape h with ⟨i, t, rfl, rfl⟩ | ⟨x, t, rfl, rfl⟩ <;> rfl
  pyHash := fun hv h => by
    rcases keyIs_shape hv with ⟨i, t, rfl, rfl⟩ | ⟨x, t, rfl, rfl⟩
    · exact wpAny_pyHash_int h
    · exact wpAny_pyHash_str h
  eqBool := fun hu hv h => by
    rcases keyIs_shape hu with ⟨i, t, rfl, rfl⟩ | ⟨x, t, rfl, rfl⟩
    · rcases keyIs_shape hv with ⟨j, u, rfl, rfl⟩ | ⟨y, u, rfl, rfl⟩
      · rw [key_ll] at h; exact wpAny_eqBool_int h
      · rw [key_lr] at h; exact SeqAt.EqAt.int_str i t y u _ _ _ _ h
    · rcases keyIs_shape hv with ⟨j, u, rfl, rfl⟩ | ⟨y, u, rfl, rfl⟩
      · rw [key_rl] at h; exact SeqAt.EqAt.str_int x t j u _ _ _ _ h
      · rw [key_rr] at h; exact wpAny_eqBool_str h
  «strs» := fun k x t v h => by
    rcases keyIs_shape h with ⟨i, u, rfl, e⟩ | ⟨y, u, rfl, e⟩
    · exact nomatch e
    · injection e with e1 _
      subst e1
      cases v <;> rfl

theorem mixKind_int (prog : Program) (w : World) (i : Int) (t : Tok) : (mixKind prog w).is (.inl i) (.int i t) = true := keyIs_int i t
theorem mixKind_str (prog : Program) (w : World) (x : Str) (t : Tok) : (mixKind prog w).is (.inr x) (.str x t) = true := keyIs_str x t
end L2

namespace L2
open PySem PySem.Spec PyProof.Rows

/-- a value, without the heap -/
inductive V where
  | non | bl (b : Bool) | int (i : Int) | str (x : Str) | byt (b : Array UInt8) | flt (b : UInt64) | ref (a : Addr) | ty (n : String)
  deriving DecidableEq

noncomputable def RelV : V → Value → Prop
  | .non, u => u = Value.none
  | .bl b, u => u = Value.bool b
  | .int i, u => ∃ t, u = Value.int i t
  | .str x, u => ∃ t, u = Value.str x t
  | .byt b, u => ∃ t, u = Value.bytes b t
  | .flt b, u => ∃ t, u = Value.float b t
  | .ref a, u => u = Value.ref a
  | .ty n, u => u = Value.type n

noncomputable abbrev Vals : List V → List Value → Prop := Paired RelV
theorem Vals.length {xs : List V} {us : List Value} (r : Vals xs us) : xs.length = us.length := Paired.length r
theorem Vals.get : ∀ {xs : List V} {us : List Value} {i : Nat} {x : V}, Vals xs us → xs[i]? = some x → ∃ u, us[i]? = some u ∧ RelV x u
  | _, _, _, _, .nil, e => by simp at e
  | _, _, 0, _, .cons r _, e => by simp at e; subst e; exact ⟨_, rfl, r⟩
  | _, _, i + 1, x, .cons _ t, e => by
    obtain ⟨u, h1, h2⟩ := Vals.get (i := i) (x := x) t (by simpa using e)
    exact ⟨u, by simpa using h1, h2⟩
theorem Vals.set {x : V} {u : Value} (r : RelV x u) : ∀ {xs : List V} {us : List Value} (i : Nat), Vals xs us → Vals (xs.set i x) (us.set i u)
  | _, _, _, .nil => .nil
  | _, _, 0, .cons _ t => .cons r t
  | _, _, i + 1, .cons q t => .cons q (Vals.set r i t)
theorem Vals.append : ∀ {xs ys : List V} {us ws : List Value}, Vals xs us → Vals ys ws → Vals (xs ++ ys) (us ++ ws)
  | _, _, _, _, .nil, s => s
  | _, _, _, _, .cons r t, s => .cons r (Vals.append t s)
theorem Vals.take : ∀ {xs : List V} {us : List Value} (n : Nat), Vals xs us → Vals (xs.take n) (us.take n)
  | _, _, 0, _ => .nil
  | _, _, _ + 1, .nil => .nil
  | _, _, n + 1, .cons r t => .cons r (Vals.take n t)
theorem Vals.drop : ∀ {xs : List V} {us : List Value} (n : Nat), Vals xs us → Vals (xs.drop n) (us.drop n)
  | _, _, 0, r => r
  | _, _, _ + 1, .nil => .nil
  | _, _, n + 1, .cons _ t => Vals.drop n t

noncomputable def RelO : Option V → Option Value → Prop
  | some v, some u => RelV v u
  | none, none => True
  | _, _ => False
noncomputable def KV {κ : Type} : List (κ × V) → List (κ × Value) → Prop := Paired fun (p : κ × V) (q : κ × Value) => p.1 = q.1 ∧ RelV p.2 q.2

/-- a key of a dict (00_mix): an int or a text -/
noncomputable def kV : Key → V
  | .inl i => .int i
  | .inr x => .str x

/-- what stands at a tracked address -/
inductive HO where
  /-- a list -/
  | lst (xs : List V)
  /-- a tuple (never changes) -/
  | tup (xs : List V)
  /-- a dict whose keys are ints and texts; one whose keys are tuples of ints and texts (the empty one is both) -/
  | dK (kvs : List (Key × V)) | dT (kvs : List (List Key × V))
  /-- a set of ints: its members, its size -/
  | set (S : Int → Bool) (n : Nat)
  /-- an instance of the class at C, its dict at dx, its attributes -/
  | ins (C dx : Addr) (fs : List (Str × V))
  /-- the dict of the instance at x -/
  | own (x : Addr)
  /-- the dict of an exception -/
  | xd (fs : List (Str × V))
  /-- a bound method, f of x -/
  | met (f x : Addr)
  /-- a range object lo, lo + 1, .. below hi -/
  | rng (lo hi : Int)
  /-- a thing that is known to the object (the script; a dict while a loop walks it): read, never written while it is so -/
  | frz (o : Obj) (u : HO)
  /-- a code object's table -/
  | tbl (ps : Array Value)
  /-- any other thing, by what is true of its one object (a def of one's own: SetO a S n := HO.ext fun h => ..) -/
  | ext (φ : Heap → Prop)

noncomputable abbrev Hp := Addr → Option HO
noncomputable def upd (H : Hp) (a : Addr) (o : HO) : Hp := fun b => if b = a then some o else H b
theorem upd_same {H : Hp} {a : Addr} {o : HO} : upd H a o a = some o := by unfold upd; rw [if_pos rfl]
theorem upd_ne {H : Hp} {a b : Addr} {o : HO} (h : b ≠ a) : upd H a o b = H b := by unfold upd; rw [if_neg h]
theorem upd_upd {H : Hp} {a : Addr} {o u : HO} : upd (upd H a o) a u = upd H a u := by
  funext b; unfold upd; split <;> rfl
/-- two objects of different content stand apart -/
theorem ne_of {H : Hp} {a b : Addr} {o u : HO} (h : H a = some o) (h' : H b = some u) (d : o ≠ u) : a ≠ b := by
  intro e; subst e; rw [h] at h'; exact d (Option.some.inj h')
theorem ne_of_none {H : Hp} {a b : Addr} {o : HO} (h : H a = some o) (h' : H b = none) : a ≠ b := by
  intro e; subst e; rw [h] at h'; cases h'

section
variable (P : Program) (w : World)
noncomputable def ObjOk (H : Hp) (h : Heap) (a : Addr) : HO → Prop
  | .lst xs => xs.length ≤ sizeLine ∧ ∃ (its : List Value) (n : Nat), Vals xs its ∧ h.get? a = some { cls := .type "list", data := .seq its.toArray n }
  | .tup xs => xs.length ≤ sizeLine ∧ ∃ its : List Value, Vals xs its ∧ IsTup h a its.toArray
  | .dK kvs => kvs.length ≤ sizeLine ∧ (a == sysModules) = false ∧ ∃ vs, KV kvs vs ∧ h.DictOf (mixKind P w) a vs
  | .dT kvs => kvs.length ≤ sizeLine ∧ (a == sysModules) = false ∧ ∃ xs : List (List Key × Addr × Value),
      Paired (fun (p : List Key × V) (q : List Key × Addr × Value) => p.1 = q.1 ∧ H q.2.1 = some (.tup (p.1.map kV)) ∧ RelV p.2 q.2.2) kvs xs ∧
      ∃ o es ep, h.get? a = some o ∧ o.ExactDict ∧ o.data = .dict es ep ∧ es.toList = xs.map (entryOfKey (tupleKind (mixKind P w))) ∧ (xs.map (·.1)).Nodup
  | .set S n => h.SetOf (intKind P w) a S n
  | .ins C dx fs => H dx = some (.own a) ∧ fs.length ≤ 1000 ∧ dx ≠ a ∧ h.get? a = some (PySem.W.instObj C dx) ∧
      ∃ mA, h.Ns1 dx mA ∧ (∀ f, RelO (fs.lookup f) (mA f)) ∧ PySem.Within mA (fs.map (·.1))
  | .own _ => ∃ o, h.get? a = some o
  | .xd fs => ∃ mA, h.Ns1 a mA ∧ ∀ f, RelO (fs.lookup f) (mA f)
  | .rng lo hi => ∃ t u v, h.get? a = some { cls := .type "range", data := .fields #[.int lo t, .int hi u, .int 1 v] }
  | .frz o u => h.get? a = some o ∧ ObjOk H h a u
  | .tbl ps => h.get? a = some { cls := .none, data := .fields ps }
  | .met f x => h.get? a = some (PySem.W.methodObj (.ref f) (.ref x))
  | .ext φ => φ h ∧ (∃ o, h.get? a = some o) ∧ ∀ h1 h2 : Heap, φ h1 → (∀ o, h1.get? a = some o → h2.get? a = some o) → φ h2
/-- the abstract heap is held -/
noncomputable def HOk (H : Hp) (h : Heap) : Prop := ∀ a o, H a = some o → ObjOk P w H h a o
end

section
variable {P : Program} {w : World} {H H' : Hp} {h h' : Heap} {a : Addr} {o : HO}
theorem ObjOk.lt (x : ObjOk P w H h a o) : a < h.objs.size := by
  cases o with
  | lst xs => obtain ⟨_, _, _, _, e⟩ := x; exact Heap.lt_size e
  | tup xs => obtain ⟨_, _, _, p⟩ := x; exact p.lt
  | dK kvs => obtain ⟨_, _, _, _, o, _, _, e, _⟩ := x; exact Heap.lt_size e
  | dT kvs => obtain ⟨_, _, _, _, o, _, _, e, _⟩ := x; exact Heap.lt_size e
  | set S n => obtain ⟨o, _, _, _, e, _⟩ := x; exact Heap.lt_size e
  | ins C dx fs => obtain ⟨_, _, _, e, _⟩ := x; exact Heap.lt_size e
  | own y => obtain ⟨_, e⟩ := x; exact Heap.lt_size e
  | xd fs => obtain ⟨_, ⟨_, _, _, e, _⟩, _⟩ := x; exact Heap.lt_size e
  | rng lo hi => obtain ⟨_, _, _, e⟩ := x; exact Heap.lt_size e
  | frz ob u => obtain ⟨e, _⟩ := x; exact Heap.lt_size e
  | tbl ps => exact Heap.lt_size (show h.get? a = some _ from x)
  | met f y => exact Heap.lt_size (show h.get? a = some _ from x)
  | ext φ => obtain ⟨_, ⟨_, e⟩, _⟩ := x; exact Heap.lt_size e
theorem Paired.mapP {α β : Type} {F G : α → β → Prop} : ∀ {l₁ : List α} {l₂ : List β}, Paired F l₁ l₂ → (∀ a b, F a b → G a b) → Paired G l₁ l₂
  | _, _, .nil, _ => .nil
  | _, _, .cons r t, f => .cons (f _ _ r) (Paired.mapP t f)
/-- what an object's description leans on: its own object, its own dict, the tuples -/
theorem ObjOk.stay (x : ObjOk P w H h a o) (k : ∀ b u, (b = a ∨ H b = some (.own a)) → h.get? b = some u → h'.get? b = some u)
    (ho : ∀ b, H b = some (.own a) → H' b = some (.own a)) (ht : ∀ b xs, H b = some (.tup xs) → H' b = some (.tup xs)) : ObjOk P w H' h' a o := by
  induction o with
  | lst xs => obtain ⟨z, its, n, r, e⟩ := x; exact ⟨z, its, n, r, k _ _ (.inl rfl) e⟩
  | tup xs => obtain ⟨z, its, r, ob, e, c⟩ := x; exact ⟨z, its, r, ob, k _ _ (.inl rfl) e, c⟩
  | dK kvs => obtain ⟨z, y, vs, r, ob, es, ep, e, c⟩ := x; exact ⟨z, y, vs, r, ob, es, ep, k _ _ (.inl rfl) e, c⟩
  | dT kvs =>
    obtain ⟨z, y, xs, r, ob, es, ep, e, c⟩ := x
    exact ⟨z, y, xs, Paired.mapP r fun p q z => ⟨z.1, ht _ _ z.2.1, z.2.2⟩, ob, es, ep, k _ _ (.inl rfl) e, c⟩
  | set S n => obtain ⟨ob, es, ep, t, e, c⟩ := x; exact ⟨ob, es, ep, t, k _ _ (.inl rfl) e, c⟩
  | ins C dx fs =>
    obtain ⟨d, z, ne, e, mA, ⟨od, es, ep, e2, c⟩, r⟩ := x
    exact ⟨ho _ d, z, ne, k _ _ (.inl rfl) e, mA, ⟨od, es, ep, k _ _ (.inr d) e2, c⟩, r⟩
  | own y => obtain ⟨ob, e⟩ := x; exact ⟨ob, k _ _ (.inl rfl) e⟩
  | xd fs => obtain ⟨mA, ⟨od, es, ep, e, c⟩, r⟩ := x; exact ⟨mA, ⟨od, es, ep, k _ _ (.inl rfl) e, c⟩, r⟩
  | rng lo hi => obtain ⟨t, u, v, e⟩ := x; exact ⟨t, u, v, k _ _ (.inl rfl) e⟩
  | frz ob u ih => obtain ⟨e, q⟩ := x; exact ⟨k _ _ (.inl rfl) e, ih q⟩
  | tbl ps =>
    have e : h.get? a = some { cls := .none, data := .fields ps } := x
    show h'.get? a = some { cls := .none, data := .fields ps }
    exact k a _ (.inl rfl) e
  | met f y =>
    have e : h.get? a = some (PySem.W.methodObj (.ref f) (.ref y)) := x
    show h'.get? a = some (PySem.W.methodObj (.ref f) (.ref y))
    exact k a _ (.inl rfl) e
  | ext φ => obtain ⟨p, ⟨o, e⟩, st⟩ := x; exact ⟨st _ _ p fun o q => k _ _ (.inl rfl) q, ⟨o, k _ _ (.inl rfl) e⟩, st⟩
theorem HOk.lt (x : HOk P w H h) (e : H a = some o) : a < h.objs.size := (x a o e).lt
theorem HOk.fresh (x : HOk P w H h) (e : h.objs.size ≤ a) : H a = none := by
  cases q : H a with
  | none => rfl
  | some u => exact absurd (Nat.lt_of_lt_of_le (x.lt q) e) (Nat.lt_irrefl _)
/-- every object of the heap is kept -/
theorem HOk.kept (x : HOk P w H h) (k : ∀ b u, h.get? b = some u → h'.get? b = some u) : HOk P w H h' := fun a o e =>
  (x a o e).stay (fun b u _ q => k b u q) (fun _ q => q) fun _ _ q => q
/-- a new object is laid and tracked -/
theorem HOk.laid (x : HOk P w H h) (k : ∀ b u, h.get? b = some u → h'.get? b = some u) (hp : h.objs.size ≤ a) (new : ObjOk P w (upd H a o) h' a o) : HOk P w (upd H a o) h' := fun b u e => by
  have hn := x.fresh hp
  by_cases hb : b = a
  · subst hb; rw [upd_same] at e; cases e; exact new
  · rw [upd_ne hb] at e
    exact (x b u e).stay (fun c v _ q => k c v q) (fun c q => by rw [upd_ne (ne_of_none q hn)]; exact q) fun c xs q => by rw [upd_ne (ne_of_none q hn)]; exact q
end

/-- what may be read as u: it is u, or a known u -/
noncomputable def Rd (H : Hp) (a : Addr) (u : HO) : Prop := H a = some u ∨ ∃ o, H a = some (.frz o u)
theorem Rd.ok {P : Program} {w : World} {H : Hp} {h : Heap} {a : Addr} {u : HO} (r : Rd H a u) (x : HOk P w H h) : ObjOk P w H h a u := by
  rcases r with r | ⟨o, r⟩
  · exact x a u r
  · obtain ⟨_, q⟩ := x a _ r
    exact q
/-- what may be written -/
noncomputable def Mut : Option HO → Prop
  | some (.lst _) => True
  | some (.dK _) => True
  | some (.dT _) => True
  | some (.set _ _) => True
  | some (.ins _ _ _) => True
  | some (.ext _) => True
  | _ => False
section
variable {P : Program} {w : World} {H : Hp} {h h' : Heap} {x e : Addr} {o' : HO}
/-- the object at e is changed: x itself, or the dict of the instance x -/
theorem HOk.write (ok : HOk P w H h) (mu : Mut (H x)) (he : e = x ∨ H e = some (.own x)) (k : ∀ b u, b ≠ e → h.get? b = some u → h'.get? b = some u) (heo : ∃ u, h'.get? e = some u)
    (new : ObjOk P w (upd H x o') h' x o') : HOk P w (upd H x o') h' := fun b u q => by
  have nown : ∀ c y, H c = some (.own y) → c ≠ x := fun c y r z => by subst z; rw [r] at mu; exact mu
  have ntup : ∀ c xs, H c = some (.tup xs) → c ≠ x := fun c xs r z => by subst z; rw [r] at mu; exact mu
  by_cases hb : b = x
  · subst hb; rw [upd_same] at q; cases q; exact new
  · rw [upd_ne hb] at q
    by_cases hbe : b = e
    · have q' : H b = some (.own x) := by
        rcases he with z | z
        · exact absurd (hbe.trans z) hb
        · rw [hbe]; exact z
      rw [q] at q'; cases q'
      obtain ⟨v, hv⟩ := heo
      exact ⟨v, by rw [hbe]; exact hv⟩
    · refine (ok b u q).stay (fun c v hc r => k c v ?_ r) (fun c r => by rw [upd_ne (nown c b r)]; exact r) fun c xs r => by rw [upd_ne (ntup c xs r)]; exact r
      rcases hc with rfl | hc
      · exact hbe
      · rintro rfl
        rcases he with z | z
        · exact nown c b hc z
        · rw [hc] at z; cases z; exact hb rfl
end

/-! ### kept unless tracked; of the frames at fs (the callers') the slots may change (an exception that passes writes there); of the records at ex (iterators) nothing is said -/
structure Un (fs ex : List Addr) (H H' : Hp) (h h' : Heap) : Prop where
  keep : ∀ b o, h.get? b = some o → H b = none → b ∉ fs → b ∉ ex → h'.get? b = some o
  slot : ∀ b o, h.get? b = some o → H b = none → b ∈ fs → b ∉ ex → ∃ sl, h'.get? b = some { o with slots := sl }
  free : ∀ b o, h.get? b = some o → H b = none → b ∉ ex → H' b = none
  there : ∀ b o, h.get? b = some o → b ∉ ex → ∃ o', h'.get? b = some o'
  tups : ∀ b xs, H b = some (.tup xs) → H' b = some (.tup xs)
  frzs : ∀ b o u, H b = some (.frz o u) → H' b = some (.frz o u)
  tbls : ∀ b ps, H b = some (.tbl ps) → ∃ more, H' b = some (.tbl (ps ++ more))
section
variable {fs fs' ex ex' : List Addr} {H H1 H2 : Hp} {h h1 h2 h' : Heap} {a x e : Addr} {o : HO}
theorem Un.any (u : Un fs ex H H1 h h1) {b : Addr} {ob : Obj} (q : h.get? b = some ob) (n : H b = none) (hx : b ∉ ex) : ∃ sl, h1.get? b = some { ob with slots := sl } := by
  by_cases hb : b ∈ fs
  · exact u.slot b ob q n hb hx
  · exact ⟨ob.slots, u.keep b ob q n hb hx⟩
theorem Un.kept (k : ∀ b u, h.get? b = some u → h'.get? b = some u) : Un fs ex H H h h' :=
  ⟨fun b ob q _ _ _ => k b ob q, fun b ob q _ _ _ => ⟨ob.slots, k b ob q⟩, fun _ _ _ n _ => n, fun b ob q _ => ⟨ob, k b ob q⟩, fun _ _ q => q, fun _ _ _ q => q, fun _ ps q => ⟨#[], by rw [q]; simp⟩⟩
theorem Un.refl : Un fs ex H H h h := Un.kept fun _ _ q => q
theorem Un.laid (k : ∀ b u, h.get? b = some u → h'.get? b = some u) (hp : h.objs.size ≤ a) (hn : H a = none) : Un fs ex H (upd H a o) h h' where
  keep := fun b u q _ _ _ => k b u q
  slot := fun b u q _ _ _ => ⟨u.slots, k b u q⟩
  free := fun b u q n _ => by rw [upd_ne (Nat.ne_of_lt (Nat.lt_of_lt_of_le (Heap.lt_size q) hp))]; exact n
  there := fun b u q _ => ⟨u, k b u q⟩
  tups := fun b xs q => by rw [upd_ne (ne_of_none q hn)]; exact q
  frzs := fun b u xs q => by rw [upd_ne (ne_of_none q hn)]; exact q
  tbls := fun b ps q => ⟨#[], by rw [upd_ne (ne_of_none q hn), q]; simp⟩
theorem Un.write (mu : Mut (H x)) (he : e = x ∨ H e = some (.own x)) (k : ∀ b u, b ≠ e → h.get? b = some u → h'.get? b = some u) (heo : ∃ u, h'.get? e = some u) : Un fs ex H (upd H x o) h h' := by
  have hx : ∀ b, H b = none → b ≠ x := fun b n z => by subst z; rw [n] at mu; exact mu
  have hb : ∀ b, H b = none → b ≠ e := fun b n z => by
    subst z
    rcases he with r | r
    · exact hx b n r
    · rw [n] at r; cases r
  have hm : ∀ b u, H b = some u → ¬ Mut (some u) → b ≠ x := fun b u q nm z => by subst z; rw [q] at mu; exact nm mu
  refine ⟨fun b u q n _ _ => k b u (hb b n) q, fun b u q n _ _ => ⟨u.slots, k b u (hb b n) q⟩, fun b u q n _ => by rw [upd_ne (hx b n)]; exact n, fun b u q _ => ?_,
    fun b xs q => by rw [upd_ne (hm b _ q fun z => z)]; exact q, fun b u xs q => by rw [upd_ne (hm b _ q fun z => z)]; exact q, fun b ps q => ⟨#[], by rw [upd_ne (hm b _ q fun z => z), q]; simp⟩⟩
  by_cases hbe : b = e
  · subst hbe; exact heo
  · exact ⟨u, k b u hbe q⟩
end

/-! ### the heap without what is tracked -/
noncomputable def trk (h : Heap) (H : Hp) : List Addr := (List.range h.objs.size).filter fun a => (H a).isSome
noncomputable def hidT (h : Heap) (H : Hp) : Heap := PySem.W.hideAll h (trk h H)
theorem hidT_size (h : Heap) (H : Hp) : (hidT h H).objs.size = h.objs.size := PySem.W.hideAll_size _ _
theorem hidT_get {h : Heap} {H : Hp} {b : Addr} {o : Obj} (e : h.get? b = some o) (n : H b = none) : (hidT h H).get? b = some o :=
  PySem.W.hideAll_get _ e fun hm => by
    have q : (H b).isSome = true := (List.mem_filter.mp hm).2
    rw [n] at q; simp at q
theorem of_hidT {h : Heap} {H : Hp} {b : Addr} {o : Obj} (e : (hidT h H).get? b = some o) : h.get? b = some o ∧ H b = none := by
  have e' : h.get? b = some o := PySem.W.of_hideAll (trk h H) e
  refine ⟨e', ?_⟩
  cases q : H b with
  | none => rfl
  | some x =>
    have hm : b ∈ trk h H := List.mem_filter.mpr ⟨List.mem_range.mpr (Heap.lt_size e'), by simp [q]⟩
    have z : (hidT h H).get? b = none := PySem.W.hideAll_none (trk h H) hm
    rw [z] at e; cases e

/-! ### OpenK's ledger, filled with every new object but one -/
end L2

namespace L2
open PySem PySem.Spec PyProof.Rows

/-- the module's facts, over the base: the heap at the law's entry without what is tracked there -/
structure Mod (K : PySem.W.Frag) (mg : Str → Option Value) (base : Heap) : Prop where
  kin : K.In base
  glob : base.Ns mainGlobals mg
  blt : ∃ mb, base.Ns builtinsNs mb ∧ ∀ x : Str, x ≠ "__name__" → mb x = bootBuiltins x
  nolimit : base.NoLimit

/-- the context: a def's body (or a comprehension's block) running. base: fixed through the whole law; s₀, H₀: the entry; outer: the frames whose slots others may change (a def's callers); stack: all frames that run;
   ex: iterators that were made ahead of the entry and are walked here (a comprehension's); fn: the names whose cells were made at the entry (a def: all; a comprehension's block: its own); calm: not within an except suite; pn: pins that every state bears; xe: what is wanted of an exception that leaves the code -/
structure Cx where
  prog : Program
  w : World
  K : PySem.W.Frag
  mg : Str → Option Value
  base : Heap
  A : Around
  N : List Str
  s₀ : Shared
  H₀ : Hp
  env : Env
  outer : List Env
  stack : List Env
  ex : List Addr
  fn : Str → Bool
  calm : Bool
  pn : List (Addr × Obj)
  xe : Value → Shared → Prop
/-- the callers' frames -/
noncomputable def frs (l : List Env) : List Addr := l.filterMap (·.frame)
noncomputable abbrev Cx.fs (X : Cx) : List Addr := frs X.outer

noncomputable def Vis (sc : Scope) (x : Str) : Prop := sc.names.lookup x = some .local ∨ sc.names.lookup x = some .cell ∨ sc.names.lookup x = some .free
noncomputable def Loc (sc : Scope) (x : Str) : Prop := sc.names.lookup x = some .local ∨ sc.names.lookup x = some .cell
noncomputable def Look (env : Env) (h : Heap) (m : Str → Option Value) (x : Str) (u : Value) : Prop :=
  (env.kindOf x = some .local ∧ m x = some u) ∨ ((env.kindOf x = some .cell ∨ env.kindOf x = some .free) ∧ ∃ c, env.cells.lookup x = some c ∧ h.IsCell c (some u))

structure Cx.Ok (X : Cx) : Prop where
  mod : Mod X.K X.mg X.base
  kind : X.env.scope.kind = .function
  glob : X.env.globals = mainGlobals
  blt : X.env.builtins = builtinsNs
  above : X.s₀.heap.objs.size ≤ X.env.locals
  inj : ∀ x y c, X.env.cells.lookup x = some c → X.env.cells.lookup y = some c → x = y
  has : ∀ x, (X.env.kindOf x = some .cell ∨ X.env.kindOf x = some .free) → ∃ c, X.env.cells.lookup x = some c
  cab : ∀ x c, X.fn x = true → X.env.cells.lookup x = some c → X.s₀.heap.objs.size ≤ c
  hd : X.calm = true → X.A.handled = none
  frames : X.A.frames = some X.stack
  stk : X.stack = X.outer ∨ (X.stack = X.env :: X.outer ∧ X.env.frame = some X.env.locals)
  exf : ∀ b ∈ X.ex, b ≠ X.env.locals ∧ ∀ x c, X.env.cells.lookup x = some c → c ≠ b
  bs : ∀ b o, X.base.get? b = some o → X.s₀.heap.get? b = some o ∧ X.H₀ b = none
  bsz : X.base.objs.size ≤ X.s₀.heap.objs.size
  noex : ∀ b o, X.base.get? b = some o → b ∉ X.ex
  exfs : ∀ b ∈ X.ex, b ∉ X.fs
  funs : X.s₀.heap.FunFrames X.base X.outer
  frf : ∀ b ∈ X.fs, X.H₀ b = none

structure Inv (X : Cx) (pins : List (Addr × Obj)) (σ : List (Option V)) (H : Hp) (s : Shared) : Prop where
  ok : X.Ok
  os : s.os = X.s₀.os
  bare : AllBare s.gens
  base : Un X.fs X.ex X.H₀ H X.s₀.heap s.heap
  loc : ∃ m, s.heap.Ns X.env.locals m ∧ ∀ (i : Nat) (x : Str) (v : V), X.N[i]? = some x → σ[i]? = some (some v) → Vis X.env.scope x → ∃ u, RelV v u ∧ Look X.env s.heap m x u
  cell : ∀ x c, X.env.cells.lookup x = some c → ∃ v, s.heap.IsCell c v
  free : H X.env.locals = none
  freeC : ∀ x c, X.env.cells.lookup x = some c → H c = none
  pin : ∀ p ∈ X.pn ++ pins, s.heap.get? p.1 = some p.2 ∧ H p.1 = none ∧ p.1 ≠ X.env.locals ∧ p.1 ∉ X.fs ∧ ∀ v, p.2.data ≠ .cell v
  hok : HOk X.prog X.w H s.heap
  len : σ.length = X.N.length

section
variable {X : Cx} {pins : List (Addr × Obj)} {σ : List (Option V)} {H H' : Hp} {s : Shared} {h' : Heap}

theorem Cx.Ok.nofr (ok : X.Ok) {b : Addr} {o : Obj} (e : X.base.get? b = some o) : b ∉ X.fs := fun hb => by
  have := (ok.funs.mem hb).1
  rw [e] at this; cases this
theorem Inv.bs (I : Inv X pins σ H s) : ∀ b o, X.base.get? b = some o → s.heap.get? b = some o ∧ H b = none := fun b o e =>
  ⟨I.base.keep b o (I.ok.bs b o e).1 (I.ok.bs b o e).2 (I.ok.nofr e) (I.ok.noex b o e), I.base.free b o (I.ok.bs b o e).1 (I.ok.bs b o e).2 (I.ok.noex b o e)⟩
theorem Inv.bk (I : Inv X pins σ H s) : ∀ b o, X.base.get? b = some o → s.heap.get? b = some o := fun b o e => (I.bs b o e).1
theorem Inv.mod (I : Inv X pins σ H s) : Mod X.K X.mg X.base := I.ok.mod
theorem Inv.kIn (I : Inv X pins σ H s) : X.K.In s.heap := I.ok.mod.kin.keeps I.bk
theorem Inv.lt (I : Inv X pins σ H s) : X.env.locals < s.heap.objs.size := let ⟨_, hn, _⟩ := I.loc; hn.lt
theorem Inv.sz (I : Inv X pins σ H s) : X.s₀.heap.objs.size ≤ s.heap.objs.size := Nat.le_trans I.ok.above (Nat.le_of_lt I.lt)
theorem Inv.nofs (I : Inv X pins σ H s) {a : Addr} (h : s.heap.objs.size ≤ a) : a ∉ X.fs := fun hb => by
  obtain ⟨_, o, ho, _⟩ := I.ok.funs.mem hb
  exact absurd (Nat.lt_of_lt_of_le (Heap.lt_size ho) (Nat.le_trans I.sz h)) (Nat.lt_irrefl _)
theorem Inv.cne (I : Inv X pins σ H s) : ∀ x c, X.env.cells.lookup x = some c → c ≠ X.env.locals := fun x c e z => by
  obtain ⟨v, o, ho, hd⟩ := I.cell x c e
  obtain ⟨m, ⟨o', es, ep, ho', hd', _⟩, _⟩ := I.loc
  rw [z, ho'] at ho; cases ho; rw [hd'] at hd; cases hd
theorem Inv.funs (I : Inv X pins σ H s) : s.heap.FunFrames X.base X.outer := by
  have all : ∀ (l : List Env), (∀ b ∈ frs l, b ∈ X.fs) → X.s₀.heap.FunFrames X.base l → s.heap.FunFrames X.base l := by
    intro l
    induction l with
    | nil => intro _ _; trivial
    | cons env r ih =>
      intro hs hl
      obtain ⟨hk, ⟨L, o, hf, hn, ho, hd⟩, hr⟩ := hl
      have hL : L ∈ X.fs := hs L (by unfold frs; rw [List.filterMap_cons, hf]; exact List.mem_cons_self)
      obtain ⟨sl, e⟩ := I.base.slot L o ho (I.ok.frf L hL) hL fun z => I.ok.exfs L z hL
      exact ⟨hk, ⟨L, _, hf, hn, e, hd⟩, ih (fun b hb => hs b (by unfold frs; rw [List.filterMap_cons, hf]; exact List.mem_cons_of_mem _ hb)) hr⟩
  exact all X.outer (fun _ hb => hb) I.ok.funs

/-- the frames that run, for a call -/
theorem Inv.stack (I : Inv X pins σ H s) : s.heap.FunFrames X.base X.stack := by
  rcases I.ok.stk with e | ⟨e, hf⟩
  · rw [e]; exact I.funs
  · rw [e]
    obtain ⟨m, hn, _⟩ := I.loc
    refine .cons (by rw [I.ok.kind]; decide) hf hn ?_ I.funs
    exact Heap.get?_none_of_le (Nat.le_trans I.ok.bsz I.ok.above)
theorem Inv.stkSub (I : Inv X pins σ H s) : ∀ b ∈ frs X.stack, b ∈ X.env.locals :: X.fs := fun b hb => by
  rcases I.ok.stk with e | ⟨e, hf⟩
  · rw [e] at hb; exact List.mem_cons_of_mem _ hb
  · rw [e] at hb
    unfold frs at hb
    rw [List.filterMap_cons, hf] at hb
    exact hb
theorem Inv.stkFree (I : Inv X pins σ H s) : ∀ b ∈ frs X.stack, H b = none := fun b hb => by
  rcases List.mem_cons.mp (I.stkSub b hb) with e | hb
  · rw [e]; exact I.free
  · obtain ⟨_, o, ho, _⟩ := I.ok.funs.mem hb
    exact I.base.free b o ho (I.ok.frf b hb) fun z => I.ok.exfs b z hb

/-- THE STEP: the untracked objects but the frame and the records at ch are kept (the callers' frames up to slots), the frame's map is kept, the new abstract heap is held -/
theorem Inv.step {g' : Array GenState} {t' : Nat} {d' : Drawn} {ch : List Addr} (I : Inv X pins σ H s)
    (hch : ∀ b ∈ ch, (b ∈ X.ex ∨ X.s₀.heap.objs.size ≤ b) ∧ b ≠ X.env.locals ∧ (∀ x c, X.env.cells.lookup x = some c → c ≠ b) ∧ ∀ p ∈ X.pn ++ pins, p.1 ≠ b)
    (keep : ∀ b o, b ≠ X.env.locals → b ∉ X.fs → b ∉ ch → s.heap.get? b = some o → H b = none → h'.get? b = some o)
    (slot : ∀ b o, b ≠ X.env.locals → b ∈ X.fs → b ∉ ch → s.heap.get? b = some o → H b = none → ∃ sl, h'.get? b = some { o with slots := sl }) (free : ∀ b o, b ∉ ch → s.heap.get? b = some o → H b = none → H' b = none)
    (there : ∀ b o, b ∉ ch → s.heap.get? b = some o → ∃ o', h'.get? b = some o')
    (tups : ∀ b xs, H b = some (.tup xs) → H' b = some (.tup xs)) (frzs : ∀ b o u, H b = some (.frz o u) → H' b = some (.frz o u)) (tbls : ∀ b ps, H b = some (.tbl ps) → ∃ more, H' b = some (.tbl (ps ++ more)))
    (ns : ∀ m, s.heap.Ns X.env.locals m → h'.Ns X.env.locals m) (hok : HOk X.prog X.w H' h') (hg : AllBare g') :
    Inv X pins σ H' { s with heap := h', gens := g', drawn := d', toks := t' } := by
  have neL : ∀ b o, X.s₀.heap.get? b = some o → b ≠ X.env.locals := fun b o e => Nat.ne_of_lt (Nat.lt_of_lt_of_le (Heap.lt_size e) I.ok.above)
  have neC : ∀ b o, X.s₀.heap.get? b = some o → b ∉ X.ex → b ∉ ch := fun b o e hx hb => by
    rcases (hch b hb).1 with z | z
    · exact hx z
    · exact absurd (Nat.lt_of_lt_of_le (Heap.lt_size e) z) (Nat.lt_irrefl _)
  have cellK : ∀ x c, X.env.cells.lookup x = some c → ∀ v, s.heap.IsCell c v → h'.IsCell c v := fun x c e v ⟨o, ho, hd⟩ => by
    have nch : c ∉ ch := fun z => (hch c z).2.2.1 x c e rfl
    by_cases hc : c ∈ X.fs
    · obtain ⟨sl, q⟩ := slot c o (I.cne x c e) hc nch ho (I.freeC x c e)
      exact ⟨_, q, hd⟩
    · exact ⟨o, keep c o (I.cne x c e) hc nch ho (I.freeC x c e), hd⟩
  refine ⟨I.ok, I.os, hg, ⟨fun b o e n hb hx => ?_, fun b o e n hb hx => ?_, fun b o e n hx => ?_, fun b o e hx => ?_, fun b xs e => tups b xs (I.base.tups b xs e), fun b o xs e => frzs b o xs (I.base.frzs b o xs e), fun b ps e => ?_⟩, ?_, fun x c e => ?_, ?_, fun x c e => ?_, fun p hp => ?_, hok, I.len⟩
  · exact keep b o (neL b o e) hb (neC b o e hx) (I.base.keep b o e n hb hx) (I.base.free b o e n hx)
  · obtain ⟨sl, e1⟩ := I.base.slot b o e n hb hx
    obtain ⟨sl', e2⟩ := slot b _ (neL b o e) hb (neC b o e hx) e1 (I.base.free b o e n hx)
    exact ⟨sl', e2⟩
  · obtain ⟨o', e1⟩ := I.base.there b o e hx
    exact free b o' (neC b o e hx) e1 (I.base.free b o e n hx)
  · obtain ⟨o', e1⟩ := I.base.there b o e hx
    exact there b o' (neC b o e hx) e1
  · obtain ⟨m1, e1⟩ := I.base.tbls b ps e
    obtain ⟨m2, e2⟩ := tbls b _ e1
    exact ⟨m1 ++ m2, by rw [e2, Array.append_assoc]⟩
  · obtain ⟨m, hn, hl⟩ := I.loc
    refine ⟨m, ns m hn, fun i x v e1 e2 e3 => ?_⟩
    obtain ⟨u, r, l⟩ := hl i x v e1 e2 e3
    refine ⟨u, r, ?_⟩
    rcases l with l | ⟨k, c, e, z⟩
    · exact .inl l
    · exact .inr ⟨k, c, e, cellK x c e _ z⟩
  · obtain ⟨v, z⟩ := I.cell x c e
    exact ⟨v, cellK x c e v z⟩
  · obtain ⟨m, ⟨o, _, _, ho, _⟩, _⟩ := I.loc
    exact free _ o (fun z => (hch _ z).2.1 rfl) ho I.free
  · obtain ⟨v, o, ho, hd⟩ := I.cell x c e
    exact free c o (fun z => (hch c z).2.2.1 x c e rfl) ho (I.freeC x c e)
  · obtain ⟨e, n, ne, nf, d⟩ := I.pin p hp
    have nch : p.1 ∉ ch := fun z => (hch p.1 z).2.2.2 p hp rfl
    exact ⟨keep p.1 p.2 ne nf nch e n, free p.1 p.2 nch e n, ne, nf, d⟩
/-- .. where the frame's own object is kept too -/
theorem Inv.un {t' : Nat} (I : Inv X pins σ H s) (u : Un X.fs [] H H' s.heap h') (hok : HOk X.prog X.w H' h') : Inv X pins σ H' { s with heap := h', toks := t' } := by
  obtain ⟨m, ⟨o, es, ep, ho, r⟩, _⟩ := id I.loc
  obtain ⟨sl, hL⟩ := u.any ho I.free (by simp)
  exact I.step (g' := s.gens) (d' := s.drawn) (ch := []) (fun _ z => nomatch z) (fun b o _ hb _ e n => u.keep b o e n hb (by simp)) (fun b o _ hb _ e n => u.slot b o e n hb (by simp)) (fun b o _ e n => u.free b o e n (by simp)) (fun b o _ e => u.there b o e (by simp)) u.tups u.frzs u.tbls (fun m' hm => by
    obtain ⟨o', es', ep', ho', r'⟩ := hm
    rw [ho] at ho'; cases ho'
    exact ⟨_, es', ep', hL, r'⟩) hok I.bare
/-- behind a call (or a comprehension's block): the slots of this frame may have changed too, the records at ch may have turned -/
theorem Inv.call {g' : Array GenState} {t' : Nat} {d' : Drawn} {ch : List Addr} (I : Inv X pins σ H s) (u : Un (frs X.stack) ch H H' s.heap h') (hok : HOk X.prog X.w H' h') (hg : AllBare g')
    (hch : ∀ b ∈ ch, (b ∈ X.ex ∨ X.s₀.heap.objs.size ≤ b) ∧ b ≠ X.env.locals ∧ (∀ x c, X.env.cells.lookup x = some c → c ≠ b) ∧ ∀ p ∈ X.pn ++ pins, p.1 ≠ b) :
    Inv X pins σ H' { s with heap := h', gens := g', drawn := d', toks := t' } := by
  obtain ⟨m, ⟨o, es, ep, ho, r⟩, _⟩ := id I.loc
  obtain ⟨sl, hL⟩ := u.any ho I.free fun z => (hch _ z).2.1 rfl
  exact I.step (ch := ch) hch (fun b o hL hb hc e n => u.keep b o e n (fun z => (List.mem_cons.mp (I.stkSub b z)).elim hL hb) hc) (fun b o _ _ hc e n => u.any e n hc) (fun b o hc e n => u.free b o e n hc) (fun b o hc e => u.there b o e hc) u.tups u.frzs u.tbls (fun m' hm => by
    obtain ⟨o', es', ep', ho', r'⟩ := hm
    rw [ho] at ho'; cases ho'
    exact ⟨_, es', ep', hL, r'⟩) hok hg
/-- an untracked record of ours (an iterator) has turned -/
theorem Inv.turned {t' : Nat} {it : Addr} (I : Inv X pins σ H s) (k : ∀ b o, b ≠ it → s.heap.get? b = some o → h'.get? b = some o) (hn : H it = none) (hL : it ≠ X.env.locals)
    (h1 : it ∈ X.ex ∨ X.s₀.heap.objs.size ≤ it) (h2 : ∀ x c, X.env.cells.lookup x = some c → c ≠ it) (h3 : ∀ p ∈ X.pn ++ pins, p.1 ≠ it) : Inv X pins σ H { s with heap := h', toks := t' } := by
  have nit : ∀ b u, H b = some u → b ≠ it := fun b u e z => by rw [z, hn] at e; cases e
  refine I.step (g' := s.gens) (d' := s.drawn) (ch := [it]) (fun b hb => ?_) (fun b o _ _ hc e _ => k b o (fun z => hc (by simp [z])) e) (fun b o _ _ hc e _ => ⟨o.slots, k b o (fun z => hc (by simp [z])) e⟩) (fun _ _ _ _ n => n)
    (fun b o hc e => ⟨o, k b o (fun z => hc (by simp [z])) e⟩) (fun _ _ e => e) (fun _ _ _ e => e) (fun b ps e => ⟨#[], by rw [e]; simp⟩) (fun m hm => ?_) (fun b u e => ?_) I.bare
  · have e : b = it := by simpa using hb
    subst e
    exact ⟨h1, hL, h2, h3⟩
  · obtain ⟨o, es, ep, ho, r⟩ := hm
    exact ⟨o, es, ep, k _ o (Ne.symm hL) ho, r⟩
  · refine (I.hok b u e).stay (fun c v hc q => k c v ?_ q) (fun _ q => q) fun _ _ q => q
    rcases hc with z | z
    · rw [z]; exact nit b u e
    · exact nit c _ z
theorem Inv.tok (I : Inv X pins σ H s) (t : Nat) : Inv X pins σ H { s with toks := t } := I.un (h' := s.heap) (t' := t) Un.refl I.hok
/-- all objects kept -/
theorem Inv.kept {t' : Nat} (I : Inv X pins σ H s) (k : ∀ b u, s.heap.get? b = some u → h'.get? b = some u) : Inv X pins σ H { s with heap := h', toks := t' } := I.un (Un.kept k) (I.hok.kept k)
/-- a new object laid and tracked -/
theorem Inv.laid {a : Addr} {o : HO} {t' : Nat} (I : Inv X pins σ H s) (k : ∀ b u, s.heap.get? b = some u → h'.get? b = some u) (hp : s.heap.objs.size ≤ a) (new : ObjOk X.prog X.w (upd H a o) h' a o) :
    Inv X pins σ (upd H a o) { s with heap := h', toks := t' } := I.un (Un.laid k hp (I.hok.fresh hp)) (I.hok.laid k hp new)
/-- an object written -/
theorem Inv.write {x e : Addr} {o : HO} {t' : Nat} (I : Inv X pins σ H s) (mu : Mut (H x)) (he : e = x ∨ H e = some (.own x)) (k : ∀ b u, b ≠ e → s.heap.get? b = some u → h'.get? b = some u) (heo : ∃ u, h'.get? e = some u)
    (new : ObjOk X.prog X.w (upd H x o) h' x o) : Inv X pins σ (upd H x o) { s with heap := h', toks := t' } := I.un (Un.write mu he k heo) (I.hok.write mu he k heo new)
theorem Inv.pins_of {pins' : List (Addr × Obj)} (I : Inv X pins σ H s) (h : ∀ p ∈ pins', s.heap.get? p.1 = some p.2 ∧ H p.1 = none ∧ p.1 ≠ X.env.locals ∧ p.1 ∉ X.fs ∧ ∀ v, p.2.data ≠ .cell v) : Inv X pins' σ H s :=
  ⟨I.ok, I.os, I.bare, I.base, I.loc, I.cell, I.free, I.freeC, fun p hp => (List.mem_append.mp hp).elim (fun z => I.pin p (List.mem_append_left _ z)) (h p), I.hok, I.len⟩

theorem nodup_ix {N : List Str} (hN : N.Nodup) {i j : Nat} {x : Str} (a : N[i]? = some x) (b : N[j]? = some x) : i = j := by
  obtain ⟨h1, e1⟩ := List.getElem?_eq_some_iff.mp a
  obtain ⟨h2, e2⟩ := List.getElem?_eq_some_iff.mp b
  exact (List.getElem_inj hN).mp (e1.trans e2.symm)

/-- a name is stored; what changed -/
theorem store_ok2 {M : Model} {A : Around} {E : Value → Shared → Prop} {i : Nat} {x : Str} {v : V} {u : Value} {Q : Unit → Shared → Prop} (I : Inv X pins σ H s) (hN : X.N.Nodup) (hi : X.N[i]? = some x) (hx : Loc X.env.scope x) (r : RelV v u)
    (h : ∀ s', Inv X pins (σ.set i (some v)) H s' → (∃ a, Heap.SameBut a s.heap s'.heap ∧ (a = X.env.locals ∨ X.env.cells.lookup x = some a)) → Q () s') (hf : X.fn x = true ∨ X.env.scope.names.lookup x = some .local := by first | exact .inl rfl | exact .inr rfl | assumption) : wpAny M A (storeName X.env x u) Q E s := by
  obtain ⟨m, hn, hl⟩ := id I.loc
  have hcls : (X.env.scope.kind == .class || (X.env.scope.kind == .module && X.env.locals != X.env.globals)) = false := by rw [I.ok.kind]; rfl
  have hiσ : i < σ.length := by rw [I.len]; exact (List.getElem?_eq_some_iff.mp hi).1
  have cne := I.cne
  have tracked : ∀ {a : Addr} {h' : Heap}, (∃ o, s.heap.get? a = some o ∧ H a = none) → Heap.SameBut a s.heap h' → HOk X.prog X.w H h' := fun {a h'} ha hs b ob e => by
    obtain ⟨_, _, hfree⟩ := ha
    refine (I.hok b ob e).stay (fun c w' hc q => (hs.2 c ?_).trans q) (fun _ q => q) fun _ _ q => q
    rintro rfl
    rcases hc with rfl | hc
    · rw [hfree] at e; cases e
    · rw [hfree] at hc; cases hc
  rcases hx with hk | hk
  · refine wpAny_storeName_local hk hn (fun h' hn' hs => ?_) hcls
    obtain ⟨oL, _, _, hoL, _⟩ := id hn
    refine h _ ⟨I.ok, I.os, I.bare, ⟨fun b o e n hb hx => ?_, fun b o e n hb hx => ?_, I.base.free, fun b o e hx => ?_, I.base.tups, I.base.frzs, I.base.tbls⟩, ⟨_, hn', fun j y v' e1 e2 e3 => ?_⟩, fun y c e => ?_, I.free, I.freeC, fun p hp => ?_, tracked ⟨oL, hoL, I.free⟩ hs, by simpa using I.len⟩ ⟨_, hs, .inl rfl⟩
    · exact (hs.2 b (Nat.ne_of_lt (Nat.lt_of_lt_of_le (Heap.lt_size e) I.ok.above))).trans (I.base.keep b o e n hb hx)
    · obtain ⟨sl, e1⟩ := I.base.slot b o e n hb hx
      exact ⟨sl, (hs.2 b (Nat.ne_of_lt (Nat.lt_of_lt_of_le (Heap.lt_size e) I.ok.above))).trans e1⟩
    · obtain ⟨o', e1⟩ := I.base.there b o e hx
      exact ⟨o', (hs.2 b (Nat.ne_of_lt (Nat.lt_of_lt_of_le (Heap.lt_size e) I.ok.above))).trans e1⟩
    · by_cases hj : j = i
      · subst hj
        rw [hi] at e1; cases e1
        rw [List.getElem?_set_self hiσ] at e2
        cases e2
        exact ⟨u, r, .inl ⟨hk, by simp⟩⟩
      · rw [List.getElem?_set_ne (Ne.symm hj)] at e2
        obtain ⟨u', r', q⟩ := hl j y v' e1 e2 e3
        refine ⟨u', r', ?_⟩
        rcases q with ⟨k, e⟩ | ⟨k, c, e, z⟩
        · refine .inl ⟨k, ?_⟩
          have : y ≠ x := fun e => hj (nodup_ix hN e1 (e ▸ hi))
          simp [this, e]
        · exact .inr ⟨k, c, e, z.sameBut hs (cne y c e)⟩
    · obtain ⟨w', z⟩ := I.cell y c e
      exact ⟨w', z.sameBut hs (cne y c e)⟩
    · obtain ⟨e, n, ne, nf, d⟩ := I.pin p hp
      exact ⟨(hs.2 p.1 ne).trans e, n, ne, nf, d⟩
  · have hfn : X.fn x = true := by
      rcases hf with z | z
      · exact z
      · rw [z] at hk; cases hk
    obtain ⟨c, hc⟩ := I.ok.has x (.inl hk)
    obtain ⟨w', z⟩ := I.cell x c hc
    refine wpAny_storeName_cell I.ok.kind hk hc z (fun h' hc' hs => ?_)
    obtain ⟨oc, hoc, hocd⟩ := id z
    refine h { s with heap := h' } ⟨I.ok, I.os, I.bare, ⟨fun b o e n hb hx => ?_, fun b o e n hb hx => ?_, I.base.free, fun b o e hx => ?_, I.base.tups, I.base.frzs, I.base.tbls⟩, ⟨m, hn.sameBut hs (Ne.symm (cne x c hc)), fun j y v' e1 e2 e3 => ?_⟩, fun y c' e => ?_, I.free, I.freeC, fun p hp => ?_, tracked ⟨oc, hoc, I.freeC x c hc⟩ hs, by simpa using I.len⟩ ⟨c, hs, .inr hc⟩
    · exact (hs.2 b (Nat.ne_of_lt (Nat.lt_of_lt_of_le (Heap.lt_size e) (I.ok.cab x c hfn hc)))).trans (I.base.keep b o e n hb hx)
    · obtain ⟨sl, e1⟩ := I.base.slot b o e n hb hx
      exact ⟨sl, (hs.2 b (Nat.ne_of_lt (Nat.lt_of_lt_of_le (Heap.lt_size e) (I.ok.cab x c hfn hc)))).trans e1⟩
    · obtain ⟨o', e1⟩ := I.base.there b o e hx
      exact ⟨o', (hs.2 b (Nat.ne_of_lt (Nat.lt_of_lt_of_le (Heap.lt_size e) (I.ok.cab x c hfn hc)))).trans e1⟩
    · by_cases hj : j = i
      · subst hj
        rw [hi] at e1; cases e1
        rw [List.getElem?_set_self hiσ] at e2
        cases e2
        exact ⟨u, r, .inr ⟨.inl hk, c, hc, hc'⟩⟩
      · rw [List.getElem?_set_ne (Ne.symm hj)] at e2
        obtain ⟨u', r', q⟩ := hl j y v' e1 e2 e3
        refine ⟨u', r', ?_⟩
        rcases q with q | ⟨k, c', e, z'⟩
        · exact .inl q
        · refine .inr ⟨k, c', e, z'.sameBut hs ?_⟩
          rintro rfl
          exact hj (nodup_ix hN e1 (I.ok.inj _ _ _ e hc ▸ hi))
    · by_cases hcc : c' = c
      · subst hcc; exact ⟨_, hc'⟩
      · obtain ⟨w2, z2⟩ := I.cell y c' e
        exact ⟨w2, z2.sameBut hs hcc⟩
    · obtain ⟨e, n, ne, nf, d⟩ := I.pin p hp
      refine ⟨(hs.2 p.1 ?_).trans e, n, ne, nf, d⟩
      intro q
      rw [q, hoc] at e
      have q' : oc = p.2 := Option.some.inj e
      exact d w' (by rw [← q']; exact hocd)
theorem store_ok {M : Model} {A : Around} {E : Value → Shared → Prop} {i : Nat} {x : Str} {v : V} {u : Value} {Q : Unit → Shared → Prop} (I : Inv X pins σ H s) (hN : X.N.Nodup) (hi : X.N[i]? = some x) (hx : Loc X.env.scope x) (r : RelV v u)
    (h : ∀ s', Inv X pins (σ.set i (some v)) H s' → Q () s') (hf : X.fn x = true ∨ X.env.scope.names.lookup x = some .local := by first | exact .inl rfl | exact .inr rfl | assumption) : wpAny M A (storeName X.env x u) Q E s :=
  store_ok2 I hN hi hx r (fun s' I' _ => h s' I') hf
/-- behind a call or a block, the state as it is -/
theorem Inv.call' {s' : Shared} {ch : List Addr} (I : Inv X pins σ H s) (ho : s'.os = s.os) (u : Un (frs X.stack) ch H H' s.heap s'.heap) (hok : HOk X.prog X.w H' s'.heap) (hg : AllBare s'.gens)
    (hch : ∀ b ∈ ch, (b ∈ X.ex ∨ X.s₀.heap.objs.size ≤ b) ∧ b ≠ X.env.locals ∧ (∀ x c, X.env.cells.lookup x = some c → c ≠ b) ∧ ∀ p ∈ X.pn ++ pins, p.1 ≠ b) : Inv X pins σ H' s' := by
  obtain ⟨h', g', d', t', o'⟩ := s'
  have e : o' = s.os := ho
  subst e
  exact I.call (g' := g') (t' := t') (d' := d') u hok hg hch
end

/-! ### the judgements -/
/-- an exception: its class, its own dict's address (where it has one), the abstract heap behind it -/
noncomputable abbrev XK := Value → Option Addr → Hp → Prop
noncomputable abbrev St := List (Option V)
noncomputable abbrev VK := V → Hp → Prop
/-- an expression's reading; a test's; an argument list's -/
noncomputable abbrev TE := St → Hp → VK → Prop
noncomputable abbrev TT := St → Hp → (Bool → Hp → Prop) → Prop
noncomputable abbrev TA := St → Hp → (List V → Hp → Prop) → Prop
/-- what is wanted behind a statement -/
structure Ends where
  nx : St → Hp → Prop
  rt : VK
  bk : St → Hp → Prop := fun _ _ => False
  ct : St → Hp → Prop := fun _ _ => False
noncomputable abbrev TS := Ends → St → Hp → Prop

noncomputable def EP (X : Cx) (pins : List (Addr × Obj)) (σ : St) (Q : VK) (u : Value) (s' : Shared) : Prop := ∃ v H', Inv X pins σ H' s' ∧ RelV v u ∧ Q v H'
noncomputable def TP (X : Cx) (pins : List (Addr × Obj)) (σ : St) (Q : Bool → Hp → Prop) (b : Bool) (s' : Shared) : Prop := ∃ H', Inv X pins σ H' s' ∧ Q b H'
noncomputable def AP (X : Cx) (pins : List (Addr × Obj)) (σ : St) (Q : List V → Hp → Prop) (us : List Value) (s' : Shared) : Prop := ∃ vs H', Inv X pins σ H' s' ∧ Vals vs us ∧ Q vs H'
noncomputable def SP (X : Cx) (pins : List (Addr × Obj)) (D : Ends) (f : Flow) (s' : Shared) : Prop :=
  match f with
  | .next => ∃ σ' H', Inv X pins σ' H' s' ∧ D.nx σ' H'
  | .brk => ∃ σ' H', Inv X pins σ' H' s' ∧ D.bk σ' H'
  | .cont => ∃ σ' H', Inv X pins σ' H' s' ∧ D.ct σ' H'
  | .ret u => ∃ v σ' H', Inv X pins σ' H' s' ∧ RelV v u ∧ D.rt v H'

noncomputable def PE (X : Cx) (e : Expr) (t : TE) : Prop :=
  ∀ (pins : List (Addr × Obj)) (s : Shared) (σ : St) (H : Hp) (Q : VK), Inv X pins σ H s → t σ H Q → wpAny (model X.prog X.w) X.A (eval e X.env) (EP X pins σ Q) X.xe s
noncomputable def PT (X : Cx) (e : Expr) (t : TT) : Prop :=
  ∀ (pins : List (Addr × Obj)) (s : Shared) (σ : St) (H : Hp) (Q : Bool → Hp → Prop), Inv X pins σ H s → t σ H Q → wpAny (model X.prog X.w) X.A (isTrue e X.env (eval e X.env)) (TP X pins σ Q) X.xe s
/-- a test whatever its 'whole' is (and, or) -/
noncomputable def PW (X : Cx) (e : Expr) (t : TT) : Prop :=
  ∀ (whole : Sem Value) (pins : List (Addr × Obj)) (s : Shared) (σ : St) (H : Hp) (Q : Bool → Hp → Prop), Inv X pins σ H s → t σ H Q → wpAny (model X.prog X.w) X.A (isTrue e X.env whole) (TP X pins σ Q) X.xe s
theorem PW.pt {X : Cx} {e : Expr} {t : TT} (h : PW X e t) : PT X e t := h _
/-- an argument list (no star), from the left -/
noncomputable def PA (X : Cx) (es : List Expr) (t : TA) : Prop :=
  ∀ (pos : Pos) (pins : List (Addr × Obj)) (s : Shared) (σ : St) (H : Hp) (Q : List V → Hp → Prop), Inv X pins σ H s → t σ H Q → wpAny (model X.prog X.w) X.A (spliced (backTo pos (starEach es X.env))) (AP X pins σ Q) X.xe s
noncomputable def PS (X : Cx) (st : Stmt) (t : TS) : Prop :=
  ∀ (pins : List (Addr × Obj)) (s : Shared) (σ : St) (H : Hp) (D : Ends), Inv X pins σ H s → t D σ H → wpAny (model X.prog X.w) X.A (exec st X.env) (SP X pins D) X.xe s
noncomputable def PSs (X : Cx) (st : List Stmt) (t : TS) : Prop :=
  ∀ (pins : List (Addr × Obj)) (s : Shared) (σ : St) (H : Hp) (D : Ends), Inv X pins σ H s → t D σ H → wpAny (model X.prog X.w) X.A (execs st X.env) (SP X pins D) X.xe s
/-- weaken the end -/
theorem thn {α : Type} {t : Sem α} {Q Q' : α → Shared → Prop} {M : Model} {A : Around} {E : Value → Shared → Prop} {s : Shared} (h : wpAny M A t Q E s) (hQ : ∀ a s, Q a s → Q' a s) : wpAny M A t Q' E s := wpAny_mono h hQ fun _ _ x => x
end L2

namespace L2
open PySem PySem.Spec PyProof.Rows
section
variable {X : Cx}

/-- two expressions in a row -/
theorem bin {a b : Expr} {ta tb : TE} (ha : PE X a ta) (hb : PE X b tb) {pins : List (Addr × Obj)} {s : Shared} {σ : St} {H : Hp} {R : V → V → Hp → Prop} (I : Inv X pins σ H s) (h : ta σ H fun x H1 => tb σ H1 fun y H2 => R x y H2)
    {α : Type} {Q : α → Shared → Prop} {f : Value → Value → Sem α}
    (hf : ∀ v u s2 x y H2, Inv X pins σ H2 s2 → RelV x v → RelV y u → R x y H2 → wpAny (model X.prog X.w) X.A (f v u) Q X.xe s2) :
    wpAny (model X.prog X.w) X.A (eval a X.env) (fun v s₁ => wpAny (model X.prog X.w) X.A (eval b X.env) (fun u s₂ => wpAny (model X.prog X.w) X.A (f v u) Q X.xe s₂) X.xe s₁) X.xe s := by
  refine thn (ha pins s σ H _ I h) fun v s1 ⟨x, H1, I1, r1, q1⟩ => ?_
  refine thn (hb pins s1 σ H1 _ I1 q1) fun u s2 ⟨y, H2, I2, r2, q2⟩ => ?_
  exact hf v u s2 x y H2 I2 r1 r2 q2

/-! ### names and constants -/
noncomputable def tVar (i : Nat) : TE := fun σ H Q => ∃ v, σ[i]? = some (some v) ∧ Q v H
noncomputable def tC (v : V) : TE := fun _ H Q => Q v H
theorem pe_var {i : Nat} {x : Str} {pos : Pos} (hN : X.N[i]? = some x) (hv : Vis X.env.scope x) (hd : (x == ("__debug__" : Str)) = false := by decide) (hcd : (x == ("__classdict__" : Str)) = false := by decide) : PE X (.Name x pos) (tVar i) := by
  intro pins s σ H Q I h
  obtain ⟨v, e, h⟩ := h
  obtain ⟨m, hn, hl⟩ := I.loc
  obtain ⟨u, r, l⟩ := hl i x v hN e hv
  have fin : EP X pins σ Q u s := ⟨v, H, I, r, h⟩
  rcases l with ⟨hk, hm⟩ | ⟨hk, c, hc, hcell⟩
  · exact wpAny_Name (wpAny_loadName_local I.ok.kind hk hn hm fin) hd
  · rcases hk with hk | hk
    · exact wpAny_Name (wpAny_loadName_cell I.ok.kind hk hc hcell fin) hd
    · exact wpAny_Name (wpAny_loadName_free I.ok.kind hk hc hcell fin hcd) hd
theorem pe_int {i j pos} : PE X (.Constant (.int i) j pos) (tC (.int i)) := fun _ _ _ H _ I h => wpAny_Constant_int ⟨.int i, H, I.tok _, ⟨_, rfl⟩, h⟩
theorem pe_bl {b j pos} : PE X (.Constant (.bool b) j pos) (tC (.bl b)) := fun _ _ _ H _ I h => Constant_bool ⟨.bl b, H, I, rfl, h⟩
theorem pe_non {j pos} : PE X (.Constant .none j pos) (tC .non) := fun _ _ _ H _ I h => Constant_none ⟨.non, H, I, rfl, h⟩
theorem pe_str {x j pos} : PE X (.Constant (.str x) j pos) (tC (.str x)) := fun _ _ _ H _ I h => Calls.Constant_str ⟨.str x, H, I.tok _, ⟨_, rfl⟩, h⟩

/-- a global name of the def -/
noncomputable def Gl (X : Cx) (x : Str) : Prop := X.env.kindOf x = some .globalImplicit
theorem ld_glob {E : Value → Shared → Prop} {pins : List (Addr × Obj)} {s : Shared} {σ : St} {H : Hp} {x : Str} {u : Value} {pos : Pos} {Q : Value → Shared → Prop} (I : Inv X pins σ H s) (hg : Gl X x) (hm : X.mg x = some u) (h : Q u s)
    (hd : (x == ("__debug__" : Str)) = false := by decide) : wpAny (model X.prog X.w) X.A (eval (.Name x pos) X.env) Q E s :=
  Calls.Name_function_global I.ok.kind hg (Calls.loadGlobal_global (by rw [I.ok.glob]; exact I.mod.glob.keeps I.bk) hm h) hd
theorem ld_blt {E : Value → Shared → Prop} {pins : List (Addr × Obj)} {s : Shared} {σ : St} {H : Hp} {x : Str} {u : Value} {pos : Pos} {Q : Value → Shared → Prop} (I : Inv X pins σ H s) (hg : Gl X x) (hm : X.mg x = none) (hv : bootBuiltins x = some u) (h : Q u s)
    (hn : x ≠ "__name__" := by decide) (hd : (x == ("__debug__" : Str)) = false := by decide) : wpAny (model X.prog X.w) X.A (eval (.Name x pos) X.env) Q E s := by
  obtain ⟨mb, h1, h2⟩ := I.mod.blt
  exact Calls.Name_function_global I.ok.kind hg (Calls.loadGlobal_builtin (by rw [I.ok.glob]; exact I.mod.glob.keeps I.bk) hm (by rw [I.ok.blt]; exact h1.keeps I.bk) ((h2 x hn).trans hv) h) hd
/-- a module's constant, a class, a function, as a value -/
theorem pe_glob {x : Str} {v : V} {u : Value} {pos : Pos} (hg : Gl X x) (hm : X.mg x = some u) (r : RelV v u) (hd : (x == ("__debug__" : Str)) = false := by decide) : PE X (.Name x pos) (tC v) :=
  fun _ _ _ H _ I h => ld_glob I hg hm ⟨v, H, I, r, h⟩ hd
theorem pe_bltn {x : Str} {v : V} {u : Value} {pos : Pos} (hg : Gl X x) (hm : X.mg x = none) (hv : bootBuiltins x = some u) (r : RelV v u) (hn : x ≠ "__name__" := by decide) (hd : (x == ("__debug__" : Str)) = false := by decide) : PE X (.Name x pos) (tC v) :=
  fun _ _ _ H _ I h => ld_blt I hg hm hv ⟨v, H, I, r, h⟩ hn hd

/-! ### arithmetic -/
variable {a b : Expr} {ta tb : TE} {pos : Pos}

/-! ### comparisons -/
noncomputable def PC (X : Cx) (op : CmpOp) (a b : Expr) (t : TE) : Prop :=
  ∀ (pins : List (Addr × Obj)) (s : Shared) (σ : St) (H : Hp) (Q : VK), Inv X pins σ H s → t σ H Q →
    wpAny (model X.prog X.w) X.A (eval a X.env) (fun v s₁ => wpAny (model X.prog X.w) X.A (eval b X.env) (fun u s₂ => wpAny (model X.prog X.w) X.A (compareOp op v u) (EP X pins σ Q) X.xe s₂) X.xe s₁) X.xe s
/-- a comparison as a value, as a test -/
noncomputable def tB (t : TE) : TT := fun σ H Q => t σ H fun x H1 => ∃ c, x = .bl c ∧ Q c H1
theorem pt_cmp {op : CmpOp} {t : TE} (h : PC X op a b t) (h1 : behindInMarks op b = false := by first | exact nobehind _ (by decide) (by decide) | rfl) : PT X (.Compare a [op] [b] pos) (tB t) := by
  intro pins s σ H Q I hw
  refine wpAny_isTrue_Compare1 (thn (h pins s σ H _ I hw) fun v s1 h1 => thn h1 fun u s2 h2 => thn h2 fun c s3 ⟨x, H1, I1, r1, q1⟩ => ?_) h1
  obtain ⟨d, rfl, q⟩ := q1
  cases r1
  exact wpAny_truthy_bool ⟨H1, I1, q⟩

/-! ### and, or, not -/
variable {tA tB' : TT} {rest : List Expr}
noncomputable def tAnd (t u : TT) : TT := fun σ H Q => t σ H fun c H1 => if c = true then u σ H1 Q else Q false H1
noncomputable def tOr (t u : TT) : TT := fun σ H Q => t σ H fun c H1 => if c = true then Q true H1 else u σ H1 Q
noncomputable def tNot (t : TT) : TT := fun σ H Q => t σ H fun c H1 => Q (!c) H1
theorem pw_and1 (ha : PT X a tA) : PW X (.BoolOp .And [a] pos) tA := by
  intro wh pins s σ H Q I h
  refine isTrue_and (thn (ha pins s σ H Q I h) fun c s1 e => ?_)
  cases c with
  | true => exact isTrue_and_nil e
  | false => exact e
theorem pw_or1 (ha : PT X a tA) : PW X (.BoolOp .Or [a] pos) tA := by
  intro wh pins s σ H Q I h
  refine isTrue_or (thn (ha pins s σ H Q I h) fun c s1 e => ?_)
  cases c with
  | false => exact isTrue_or_nil e
  | true => exact e
theorem pw_and (ha : PT X a tA) (hb : PW X (.BoolOp .And (b :: rest) pos) tB') : PW X (.BoolOp .And (a :: b :: rest) pos) (tAnd tA tB') := by
  intro wh pins s σ H Q I h
  refine isTrue_and (thn (ha pins s σ H _ I h) fun c s1 ⟨H1, I1, q1⟩ => ?_)
  cases c with
  | true => exact hb wh pins s1 σ H1 Q I1 q1
  | false => exact ⟨H1, I1, q1⟩
theorem pw_or (ha : PT X a tA) (hb : PW X (.BoolOp .Or (b :: rest) pos) tB') : PW X (.BoolOp .Or (a :: b :: rest) pos) (tOr tA tB') := by
  intro wh pins s σ H Q I h
  refine isTrue_or (thn (ha pins s σ H _ I h) fun c s1 ⟨H1, I1, q1⟩ => ?_)
  cases c with
  | true => exact ⟨H1, I1, q1⟩
  | false => exact hb wh pins s1 σ H1 Q I1 q1
theorem pt_not (ha : PT X a tA) : PT X (.UnaryOp .Not a pos) (tNot tA) := by
  intro pins s σ H Q I h
  exact isTrue_not (ha pins s σ H (fun c H1 => Q (!c) H1) I h)
/-- .. as values (bools) -/
noncomputable def tAndV (ta tb : TE) : TE := fun σ H Q => ta σ H fun x H1 => ∃ c, x = .bl c ∧ if c = true then tb σ H1 Q else Q (.bl false) H1
noncomputable def tOrV (ta tb : TE) : TE := fun σ H Q => ta σ H fun x H1 => ∃ c, x = .bl c ∧ if c = true then Q (.bl true) H1 else tb σ H1 Q
noncomputable def tNotV (ta : TE) : TE := fun σ H Q => ta σ H fun x H1 => ∃ c, x = .bl c ∧ Q (.bl (!c)) H1
theorem pe_one {op} {t : TE} (h : PE X a t) : PE X (.BoolOp op [a] pos) t := fun pins s σ H Q I hw => BoolOp_one (h pins s σ H Q I hw)
theorem pe_and (ha : PE X a ta) (hb : PE X (.BoolOp .And (b :: rest) pos) tb) : PE X (.BoolOp .And (a :: b :: rest) pos) (tAndV ta tb) := by
  intro pins s σ H Q I h
  refine BoolOp_and (thn (ha pins s σ H _ I h) fun v s1 ⟨x, H1, I1, r1, q1⟩ => ?_)
  obtain ⟨c, rfl, q1⟩ := q1
  cases r1
  refine wpAny_truthy_bool ?_
  cases c with
  | true => exact hb pins s1 σ H1 Q I1 q1
  | false => exact ⟨.bl false, H1, I1, rfl, q1⟩
theorem pe_or (ha : PE X a ta) (hb : PE X (.BoolOp .Or (b :: rest) pos) tb) : PE X (.BoolOp .Or (a :: b :: rest) pos) (tOrV ta tb) := by
  intro pins s σ H Q I h
  refine BoolOp_or (thn (ha pins s σ H _ I h) fun v s1 ⟨x, H1, I1, r1, q1⟩ => ?_)
  obtain ⟨c, rfl, q1⟩ := q1
  cases r1
  refine wpAny_truthy_bool ?_
  cases c with
  | false => exact hb pins s1 σ H1 Q I1 q1
  | true => exact ⟨.bl true, H1, I1, rfl, q1⟩
theorem pe_not (ha : PE X a ta) : PE X (.UnaryOp .Not a pos) (tNotV ta) := by
  intro pins s σ H Q I h
  refine UnaryOp_ (thn (ha pins s σ H _ I h) fun v s1 ⟨x, H1, I1, r1, q1⟩ => ?_)
  obtain ⟨c, rfl, q1⟩ := q1
  cases r1
  exact not_of (wpAny_truthy_bool ⟨.bl (!c), H1, I1, rfl, q1⟩)
end
end L2

namespace L2
open PySem PySem.Spec PyProof.Rows

/-! ### a list, a tuple that is read: tracked, frozen, or an object of the module -/
noncomputable def SqL (K : PySem.W.Frag) (H : Hp) (a : Addr) (xs : List V) : Prop :=
  Rd H a (.lst xs) ∨
    ∃ (o : Obj) (its : Array Value) (n : Nat), K.lookup a = some o ∧ o.cls = .type "list" ∧ o.dict = none ∧ o.data = .seq its n ∧ its.size ≤ sizeLine ∧ Vals xs its.toList
noncomputable def SqT (K : PySem.W.Frag) (H : Hp) (a : Addr) (xs : List V) : Prop :=
  Rd H a (.tup xs) ∨
    ∃ (o : Obj) (its : Array Value) (n : Nat), K.lookup a = some o ∧ o.cls = .type "tuple" ∧ o.data = .seq its n ∧ its.size ≤ sizeLine ∧ Vals xs its.toList
noncomputable def absV : Value → Option V
  | .none => some .non
  | .bool b => some (.bl b)
  | .int i _ => some (.int i)
  | .str x _ => some (.str x)
  | .bytes b _ => some (.byt b)
  | .float b _ => some (.flt b)
  | .ref a => some (.ref a)
  | .type n => some (.ty n)
  | _ => none
theorem RelV.abs {x : V} {u : Value} (r : RelV x u) : absV u = some x := by
  cases x with
  | non => cases r; rfl
  | bl _ => cases r; rfl
  | int _ => obtain ⟨t, rfl⟩ := r; rfl
  | str _ => obtain ⟨t, rfl⟩ := r; rfl
  | byt _ => obtain ⟨t, rfl⟩ := r; rfl
  | flt _ => obtain ⟨t, rfl⟩ := r; rfl
  | ref _ => cases r; rfl
  | ty _ => cases r; rfl
theorem RelV.inj {x y : V} {u : Value} (r : RelV x u) (q : RelV y u) : x = y := Option.some.inj (r.abs.symm.trans q.abs)
theorem Vals.inj : ∀ {xs ys : List V} {us : List Value}, Vals xs us → Vals ys us → xs = ys
  | _, _, _, .nil, .nil => rfl
  | _, _, _, .cons r t, .cons r' t' => by rw [r.inj r', Vals.inj t t']
section
variable {X : Cx} {pins : List (Addr × Obj)} {σ : St} {H : Hp} {s : Shared} {a : Addr} {xs ys : List V}
theorem SqL.of {K : PySem.W.Frag} (h : H a = some (.lst xs)) : SqL K H a xs := .inl (.inl h)
theorem SqT.of {K : PySem.W.Frag} (h : H a = some (.tup xs)) : SqT K H a xs := .inl (.inl h)
theorem Inv.list (I : Inv X pins σ H s) (h : SqL X.K H a xs) : ∃ its : List Value, Vals xs its ∧ PlainL s.heap a its.toArray ∧ xs.length ≤ sizeLine := by
  rcases h with h | ⟨o, its, n, hk, hc, hd, hs, hz, r⟩
  · obtain ⟨z, its, n, r, e⟩ := h.ok I.hok
    exact ⟨its, r, ⟨_, n, e, rfl, rfl, rfl⟩, z⟩
  · refine ⟨its.toList, r, ⟨o, n, I.kIn a o hk, hc, hd, by simpa using hs⟩, ?_⟩
    have e := r.length
    simp only [Array.length_toList] at e
    omega
theorem Inv.tuple (I : Inv X pins σ H s) (h : SqT X.K H a xs) : ∃ its : List Value, Vals xs its ∧ IsTup s.heap a its.toArray ∧ xs.length ≤ sizeLine := by
  rcases h with h | ⟨o, its, n, hk, hc, hs, hz, r⟩
  · obtain ⟨z, its, r, p⟩ := h.ok I.hok
    exact ⟨its, r, p, z⟩
  · refine ⟨its.toList, r, ⟨o, I.kIn a o hk, hc, n, by simpa using hs⟩, ?_⟩
    have e := r.length
    simp only [Array.length_toList] at e
    omega
theorem Inv.list_inj (I : Inv X pins σ H s) (h : SqL X.K H a xs) (h' : SqL X.K H a ys) : xs = ys := by
  obtain ⟨its, r, ⟨o, n, e, _, _, d⟩, _⟩ := I.list h
  obtain ⟨its', r', ⟨o', n', e', _, _, d'⟩, _⟩ := I.list h'
  rw [e] at e'; cases e'
  rw [d] at d'
  injection d' with d1 _
  have : its = its' := by simpa using congrArg Array.toList d1
  subst this
  exact r.inj r'
end

/-! ### another wish about exceptions -/
noncomputable abbrev Cx.wish (X : Cx) (E : Value → Shared → Prop) : Cx := { X with xe := E }
theorem Cx.Ok.wish {X : Cx} (ok : X.Ok) (E : Value → Shared → Prop) : (X.wish E).Ok :=
  ⟨ok.mod, ok.kind, ok.glob, ok.blt, ok.above, ok.inj, ok.has, ok.cab, ok.hd, ok.frames, ok.stk, ok.exf, ok.bs, ok.bsz, ok.noex, ok.exfs, ok.funs, ok.frf⟩
theorem Cx.Ok.unwish {X : Cx} {E : Value → Shared → Prop} (ok : (X.wish E).Ok) : X.Ok :=
  ⟨ok.mod, ok.kind, ok.glob, ok.blt, ok.above, ok.inj, ok.has, ok.cab, ok.hd, ok.frames, ok.stk, ok.exf, ok.bs, ok.bsz, ok.noex, ok.exfs, ok.funs, ok.frf⟩
section
variable {X : Cx} {pins : List (Addr × Obj)} {σ : St} {H : Hp} {s : Shared} {E : Value → Shared → Prop}
theorem Inv.wish (I : Inv X pins σ H s) (E : Value → Shared → Prop) : Inv (X.wish E) pins σ H s := ⟨I.ok.wish E, I.os, I.bare, I.base, I.loc, I.cell, I.free, I.freeC, I.pin, I.hok, I.len⟩
theorem Inv.unwish (I : Inv (X.wish E) pins σ H s) : Inv X pins σ H s := ⟨I.ok.unwish, I.os, I.bare, I.base, I.loc, I.cell, I.free, I.freeC, I.pin, I.hok, I.len⟩
end

/-! ### blocks and small statements -/
section
variable {X : Cx} {st : Stmt} {rest : List Stmt} {t u : TS} {e : Expr} {te : TE} {pos : Pos}
noncomputable def tNext : TS := fun D σ H => D.nx σ H
noncomputable def tSeq (t u : TS) : TS := fun D σ H => t { D with nx := u D } σ H
theorem pss_nil : PSs X [] tNext := fun _ _ σ H _ I h => wpAny_execs_nil ⟨σ, H, I, h⟩
theorem pss_cons (h1 : PS X st t) (h2 : PSs X rest u) : PSs X (st :: rest) (tSeq t u) := by
  intro pins s σ H D I h
  refine wpAny_execs_cons (thn (h1 pins s σ H { D with nx := u D } I h) fun f s1 q => ?_)
  cases f with
  | next =>
    obtain ⟨σ', H', I', q⟩ := q
    exact h2 pins s1 σ' H' D I' q
  | ret v => exact q
  | brk => exact q
  | cont => exact q
theorem pss_one (h1 : PS X st t) : PSs X [st] t := by
  intro pins s σ H D I h
  refine wpAny_execs_cons (thn (h1 pins s σ H D I h) fun f s1 q => ?_)
  cases f with
  | next => exact wpAny_execs_nil q
  | ret v => exact q
  | brk => exact q
  | cont => exact q
/-- in a def's body nothing is shown -/
theorem Inv.quiet {pins : List (Addr × Obj)} {σ : St} {H : Hp} {s : Shared} (I : Inv X pins σ H s) : interactive X.env = false := by simp [interactive, I.ok.kind]
/-- an expression whose value is dropped -/
noncomputable def tDrop (te : TE) : TS := fun D σ H => te σ H fun _ H1 => D.nx σ H1
theorem ps_expr (he : PE X e te) (hs : swapsWith e none pos.line X.env = pure false := by rfl) : PS X (.Expr e pos) (tDrop te) := by
  intro pins s σ H D I h
  exact wpAny_Expr_any (thn (he pins s σ H _ I h) fun v s1 ⟨x, H1, I1, r1, q1⟩ => ⟨σ, H1, I1, q1⟩) I.quiet hs
noncomputable def tRet (te : TE) : TS := fun D σ H => te σ H D.rt
theorem ps_ret (he : PE X e te) : PS X (.Return (some e) pos) (tRet te) := by
  intro pins s σ H D I h
  exact wpAny_Return_some (thn (he pins s σ H _ I h) fun v s1 ⟨x, H1, I1, r1, q1⟩ => ⟨x, σ, H1, I1, r1, q1⟩)
noncomputable def tIfS (c : TT) (t u : TS) : TS := fun D σ H => c σ H fun b H1 => if b = true then t D σ H1 else u D σ H1
theorem ps_if {c : Expr} {a b : List Stmt} {tc : TT} (hc : PT X c tc) (ha : PSs X a t) (hb : PSs X b u) : PS X (.If c a b pos) (tIfS tc t u) := by
  intro pins s σ H D I h
  refine wpAny_If (thn (hc pins s σ H _ I h) fun d s1 ⟨H1, I1, q1⟩ => ?_)
  cases d with
  | true => exact ha pins s1 σ H1 D I1 q1
  | false => exact hb pins s1 σ H1 D I1 q1
end

/-! ### targets -/
noncomputable abbrev TG := V → St → Hp → (St → Hp → Prop) → Prop
noncomputable abbrev TGs := List V → St → Hp → (St → Hp → Prop) → Prop
noncomputable def PG (X : Cx) (target : Expr) (t : TG) : Prop :=
  ∀ (pins : List (Addr × Obj)) (s : Shared) (σ : St) (H : Hp) (v : V) (u : Value) (Q : St → Hp → Prop), Inv X pins σ H s → RelV v u → t v σ H Q →
    wpAny (model X.prog X.w) X.A (assign target X.env u) (fun _ s' => ∃ σ' H', Inv X pins σ' H' s' ∧ Q σ' H') X.xe s
/-- several targets, one after another -/
noncomputable def PGs (X : Cx) (ts : List Expr) (t : TGs) : Prop :=
  ∀ (pins : List (Addr × Obj)) (s : Shared) (σ : St) (H : Hp) (vs : List V) (us : List Value) (Q : St → Hp → Prop), Inv X pins σ H s → Vals vs us → t vs σ H Q →
    wpAny (model X.prog X.w) X.A (assignInOrder ((assignEach ts X.env).map (·.2)) us) (fun _ s' => ∃ σ' H', Inv X pins σ' H' s' ∧ Q σ' H') X.xe s
/-- o[i] = v, by values -/
noncomputable abbrev TSet := V → V → V → Hp → (Hp → Prop) → Prop
noncomputable def PSet (X : Cx) (t : TSet) : Prop :=
  ∀ (pins : List (Addr × Obj)) (s : Shared) (σ : St) (H : Hp) (o i v : V) (ov iv u : Value) (Q : Hp → Prop), Inv X pins σ H s → RelV o ov → RelV i iv → RelV v u → t o i v H Q →
    wpAny (model X.prog X.w) X.A (setItem ov iv u) (fun _ s' => ∃ H', Inv X pins σ H' s' ∧ Q H') X.xe s
section
variable {X : Cx} {pos : Pos}
noncomputable def gName (i : Nat) : TG := fun v σ H Q => Q (σ.set i (some v)) H
theorem pg_name {i : Nat} {x : Str} (hN : X.N.Nodup) (hi : X.N[i]? = some x) (hx : Loc X.env.scope x) (hf : X.fn x = true ∨ X.env.scope.names.lookup x = some .local := by first | exact .inl rfl | exact .inr rfl | assumption) : PG X (.Name x pos) (gName i) := by
  intro pins s σ H v u Q I r h
  exact wpAny_assign_Name (store_ok I hN hi hx r (fun s' I' => ⟨_, H, I', h⟩) hf)
noncomputable def gNil : TGs := fun vs σ H Q => vs = [] ∧ Q σ H
noncomputable def gCons (t : TG) (u : TGs) : TGs := fun vs σ H Q => ∃ v r, vs = v :: r ∧ t v σ H fun σ' H' => u r σ' H' Q
theorem pgs_nil : PGs X [] gNil := by
  intro pins s σ H vs us Q I r h
  obtain ⟨e, h⟩ := h
  subst e
  cases r
  exact assignInOrder_nil ⟨σ, H, I, h⟩
theorem pgs_cons {e : Expr} {es : List Expr} {t : TG} {u : TGs} (h1 : PG X e t) (h2 : PGs X es u)
    (hs : (assignEach (e :: es) X.env).map (·.2) = assign e X.env :: (assignEach es X.env).map (·.2) := by rfl) : PGs X (e :: es) (gCons t u) := by
  intro pins s σ H vs us Q I r h
  obtain ⟨v, vr, e1, h⟩ := h
  subst e1
  cases r with
  | cons r rr =>
    rw [hs]
    refine assignInOrder_cons (thn (h1 pins s σ H _ _ _ I r h) fun _ s1 ⟨σ1, H1, I1, q1⟩ => ?_)
    exact h2 pins s1 σ1 H1 _ _ Q I1 rr q1
/-- o[i] = .. -/
noncomputable def gSub (to ti : TE) (t : TSet) : TG := fun v σ H Q => to σ H fun o H1 => ti σ H1 fun i H2 => t o i v H2 fun H3 => Q σ H3
theorem pg_sub {o i : Expr} {to ti : TE} {t : TSet} (ho : PE X o to) (hi : PE X i ti) (hs : PSet X t)
    (ha : ∀ v, assign (.Subscript o i pos) X.env v = (do
      let ov ← holding [v] (eval o X.env)
      let iv ← holding [v, ov] (eval i X.env)
      standAt pos
      holding [v, ov, iv] (setItem ov iv v)
      release [v, ov, iv] []) := by intro _; rfl) : PG X (.Subscript o i pos) (gSub to ti t) := by
  intro pins s σ H v u Q I r h
  rw [ha]
  refine wpAny_bind (wpAny_holding (thn (ho pins s σ H _ I h) fun ov s1 ⟨x, H1, I1, r1, q1⟩ => ?_))
  refine wpAny_bind (wpAny_holding (thn (hi pins s1 σ H1 _ I1 q1) fun iv s2 ⟨y, H2, I2, r2, q2⟩ => ?_))
  refine wpAny_bind (wpAny_standAt (wpAny_bind (wpAny_holding (thn (hs pins s2 σ H2 x y v ov iv u _ I2 r1 r2 r q2) fun _ s3 ⟨H3, I3, q3⟩ => ?_))))
  exact wpAny_release ⟨σ, H3, I3, q3⟩
/-- target = value -/
noncomputable def tAsg (te : TE) (g : TG) : TS := fun D σ H => te σ H fun x H1 => g x σ H1 D.nx
theorem ps_asg {tg e : Expr} {te : TE} {g : TG} (he : PE X e te) (hg : PG X tg g) (hs : swapsWithSole [tg] e pos.line X.env = pure false := by rfl) (hw : swappedStores [tg] e X.env = pure none := by rfl)
    (h1 : (assignEach [tg] X.env).map (·.2) = [assign tg X.env] := by rfl) : PS X (.Assign [tg] e pos) (tAsg te g) := by
  intro pins s σ H D I h
  refine wpAny_Assign_stores (thn (he pins s σ H _ I h) fun v s1 ⟨x, H1, I1, r1, q1⟩ => ?_) hs hw
  rw [h1]
  exact thn (hg pins s1 σ H1 x v _ I1 r1 q1) fun _ s2 q => q
/-- name = value -/
theorem ps_set {i : Nat} {x : Str} {e : Expr} {te : TE} {pos' : Pos} (hN : X.N.Nodup) (hi : X.N[i]? = some x) (hx : Loc X.env.scope x) (he : PE X e te) (hs : swapsWith e (some (.Name x pos')) pos.line X.env = pure false := by rfl) (hf : X.fn x = true ∨ X.env.scope.names.lookup x = some .local := by first | exact .inl rfl | exact .inr rfl | assumption) :
    PS X (.Assign [.Name x pos'] e pos) (tAsg te (gName i)) := by
  intro pins s σ H D I h
  refine wpAny_Assign_Name (thn (he pins s σ H _ I h) fun v s1 ⟨y, H1, I1, r1, q1⟩ => ?_) hs
  exact store_ok I1 hN hi hx r1 (fun s2 I2 => ⟨_, H1, I2, q1⟩) hf
end

/-! ### while -/
section
variable {X : Cx} {pos : Pos}
/-- the invariant W with its measure -/
noncomputable def tWhile (c : TT) (tb : TS) : TS := fun D σ H => ∃ W : Nat → St → Hp → Prop, (∃ m, W m σ H) ∧ ∀ m σ H, W m σ H →
  c σ H fun b H1 => if b = true then ∃ N : St → Hp → Prop, (∀ σ' H', N σ' H' → ∃ m', m' < m ∧ W m' σ' H') ∧ tb { D with nx := N, ct := N, bk := D.nx } σ H1 else D.nx σ H1
theorem ps_while {c : Expr} {body : List Stmt} {tc : TT} {tb : TS} (hp : PassesOwn (model X.prog X.w) X.A X.env X.xe) (hc : PT X c tc) (hb : PSs X body tb) : PS X (.While c body [] pos) (tWhile tc tb) := by
  intro pins s σ H D I h
  obtain ⟨W, ⟨m0, w0⟩, turn⟩ := h
  refine wpAny_While (codeAny_whileLoop (fun n s' => ∃ σ' H', Inv X pins σ' H' s' ∧ W n σ' H') ?_ m0 ⟨σ, H, I, w0⟩)
  rintro n s1 ⟨σ1, H1, I1, w1⟩
  refine wpAny_passesOwn hp (thn (hc pins s1 σ1 H1 _ I1 (turn n σ1 H1 w1)) fun b s2 ⟨H2, I2, q2⟩ => ?_)
  cases b with
  | true =>
    obtain ⟨N, hN, q2⟩ := q2
    rw [if_pos rfl]
    refine wpAny_passesOwn hp (thn (hb pins s2 σ1 H2 _ I2 q2) fun f s3 q3 => ?_)
    cases f with
    | next =>
      obtain ⟨σ3, H3, I3, n3⟩ := q3
      obtain ⟨m', hm, w3⟩ := hN σ3 H3 n3
      exact ⟨m', hm, σ3, H3, I3, w3⟩
    | cont =>
      obtain ⟨σ3, H3, I3, n3⟩ := q3
      obtain ⟨m', hm, w3⟩ := hN σ3 H3 n3
      exact ⟨m', hm, σ3, H3, I3, w3⟩
    | brk => exact q3
    | ret v => exact q3
  | false =>
    rw [if_neg Bool.false_ne_true]
    exact wpAny_execs_nil ⟨σ1, H2, I2, q2⟩
end

/-! ### what a loop or a comprehension walks -/
/-- at turn i: it yields x (the heap may grow), or it stops -/
structure It where
  go : Nat → Hp → Prop
  yld : Nat → Hp → V → Hp → Prop
  stop : Nat → Hp → Prop
/-- the iterator's own objects may turn: they are not the frame's, not pinned, younger than the entry (or a comprehension's own) -/
noncomputable def FpOk (X : Cx) (pins : List (Addr × Obj)) (H : Hp) (b : Addr) : Prop :=
  H b = none ∧ b ≠ X.env.locals ∧ b ∉ X.fs ∧ (b ∈ X.ex ∨ X.s₀.heap.objs.size ≤ b) ∧ (∀ x c, X.env.cells.lookup x = some c → c ≠ b) ∧ ∀ p ∈ X.pn ++ pins, p.1 ≠ b
theorem Inv.fpOk {X : Cx} {pins : List (Addr × Obj)} {σ : St} {H H' : Hp} {s : Shared} {b : Addr} (I : Inv X pins σ H s) (hb : s.heap.objs.size ≤ b) (hn : H' b = none) : FpOk X pins H' b := by
  refine ⟨hn, Nat.ne_of_gt (Nat.lt_of_lt_of_le I.lt hb), I.nofs hb, .inr (Nat.le_trans I.sz hb), fun x c e z => ?_, fun p hp z => ?_⟩
  · obtain ⟨v, q⟩ := I.cell x c e
    exact absurd (Nat.lt_of_lt_of_le q.lt (by rw [z]; exact hb)) (Nat.lt_irrefl _)
  · exact absurd (Nat.lt_of_lt_of_le (Heap.lt_size (I.pin p hp).1) (by rw [z]; exact hb)) (Nat.lt_irrefl _)
structure Turn (P : Program) (w : World) (K : PySem.W.Frag) (tg : Expr) (J : It) (fp : List Addr) (it : Addr) (tn : Nat → Heap → Prop) : Prop where
  mem : it ∈ fp
  obj : ∀ i h, tn i h → ∀ b ∈ fp, ∃ o, h.get? b = some o ∧ ∀ v, o.data ≠ .cell v
  keep : ∀ i h h', tn i h → (∀ b ∈ fp, ∀ o, h.get? b = some o → h'.get? b = some o) → tn i h'
  item : ∀ (X : Cx), X.prog = P → X.w = w → X.K = K → X.calm = true → ∀ (i : Nat) (pins : List (Addr × Obj)) (s : Shared) (σ : St) (H : Hp) (E : Value → Shared → Prop), Inv X pins σ H s → (∀ b ∈ fp, FpOk X pins H b) → tn i s.heap → J.go i H →
    wpAny (model P w) X.A (pyNext (.ref it)) (fun r s1 => ∃ u, r = some u ∧
      wpAny (model P w) X.A (letOwnedTupleGo tg (.ref it) u) (fun _ s2 => ∃ x H', Inv X pins σ H' s2 ∧ RelV x u ∧ J.yld i H x H' ∧ tn (i + 1) s2.heap ∧ ∀ b ∈ fp, H' b = none) E s1) E s
  done : ∀ (X : Cx), X.prog = P → X.w = w → X.K = K → X.calm = true → ∀ (i : Nat) (pins : List (Addr × Obj)) (s : Shared) (σ : St) (H : Hp) (E : Value → Shared → Prop), Inv X pins σ H s → (∀ b ∈ fp, FpOk X pins H b) → tn i s.heap → J.stop i H →
    wpAny (model P w) X.A (pyNext (.ref it)) (fun r s1 => r = none ∧ Inv X pins σ H s1) E s
  self : ∀ (A : Around) (i : Nat) (s : Shared) (Q : Value → Shared → Prop) (E : Value → Shared → Prop), tn i s.heap → Q (.ref it) s → wpAny (model P w) A (pyIter (.ref it)) Q E s
noncomputable abbrev TI := St → Hp → (It → Hp → Prop) → Prop
/-- an iterator has come -/
noncomputable def PIE (X : Cx) (pins : List (Addr × Obj)) (σ : St) (tg : Expr) (R : It → Hp → Prop) (itv : Value) (s2 : Shared) : Prop :=
  ∃ (it : Addr) (fp : List Addr) (tn : Nat → Heap → Prop) (J : It) (H' : Hp), itv = .ref it ∧ Inv X pins σ H' s2 ∧ Turn X.prog X.w X.K tg J fp it tn ∧ tn 0 s2.heap ∧ (∀ b ∈ fp, FpOk X pins H' b) ∧ R J H'
noncomputable def PI (X : Cx) (tg iter : Expr) (wi : TI) : Prop :=
  ∀ (pins : List (Addr × Obj)) (s : Shared) (σ : St) (H : Hp) (R : It → Hp → Prop), Inv X pins σ H s → wi σ H R →
    wpAny (model X.prog X.w) X.A (eval iter X.env) (fun v s1 => wpAny (model X.prog X.w) X.A (pyIter v) (PIE X pins σ tg R) X.xe s1) X.xe s

/-- the step ahead of the store is nothing for an iterator that keeps no tuple -/
theorem go_of {M : Model} {A : Around} {E : Value → Shared → Prop} {s : Shared} {tg : Expr} {it : Addr} {u : Value} {o : Obj} {n : String} {vs : Array Value} {Q : Unit → Shared → Prop} (ho : s.heap.get? it = some o) (hc : o.cls = .type n) (hd : o.data = .fields vs)
    (hn : ["enumerate", "zip", "dict_itemiterator", "dict_reverseitemiterator", "odict_iterator", "itertools.zip_longest", "itertools.pairwise"].contains n = false) (hQ : Q () s) : wpAny M A (letOwnedTupleGo tg (.ref it) u) Q E s := by
  unfold letOwnedTupleGo
  cases tg <;> first
    | exact wpAny_pure hQ
    | (cases u <;> first
        | exact wpAny_pure hQ
        | (refine wpAny_bind (wpAny_load ho ?_)
           rw [hc, hd]
           show wpAny M A (if (["enumerate", "zip", "dict_itemiterator", "dict_reverseitemiterator", "odict_iterator", "itertools.zip_longest", "itertools.pairwise"].contains n && vs[0]? == some (rawInt _)) = true then _ else _) Q E s
           rw [if_neg (by intro h; rw [hn, Bool.false_and] at h; cases h)]
           exact wpAny_pure hQ))

/-- the list at a, as it stands at each turn (a loop may append to it) -/
noncomputable def Itl (K : PySem.W.Frag) (a : Addr) : It :=
  ⟨fun i H => ∃ xs x, SqL K H a xs ∧ xs[i]? = some x, fun i H x H' => H' = H ∧ ∀ xs, SqL K H a xs → xs[i]? = some x, fun i H => ∃ xs, SqL K H a xs ∧ xs.length ≤ i⟩
/-- lo, lo + 1, .. (n of them) -/
noncomputable def Itr (lo : Int) (n : Nat) : It := ⟨fun i _ => i < n, fun i H x H' => H' = H ∧ x = .int (lo + i), fun i _ => n ≤ i⟩
theorem turn_list {P : Program} {w : World} {K : PySem.W.Frag} {tg : Expr} (a it : Addr) : Turn P w K tg (Itl K a) [it] it (fun i h => h.IsListIter it a i) where
  mem := by simp
  obj := fun i h st b hb => by
    have e : b = it := by simpa using hb
    subst e
    obtain ⟨o, e, c, d⟩ := st
    exact ⟨o, e, fun v z => by rw [d] at z; cases z⟩
  keep := fun i h h' st k => st.at fun o e => k it (by simp) o e
  item := by
    intro X hP hw hK hc i pins s σ H E I hf st hg
    subst hP hw hK
    obtain ⟨xs, x, hq, hx⟩ := hg
    obtain ⟨its, rv, p, hz⟩ := I.list hq
    obtain ⟨u, hu, ru⟩ := rv.get hx
    obtain ⟨f0, f1, f2, f3, f4, f5⟩ := hf it (by simp)
    refine wpAny_pyNext_list_item st p.isList (x := u) (by simpa using hu) fun h' st' sb => ?_
    have I1 : Inv X pins σ H { s with heap := h' } := I.turned (t' := s.toks) (fun b o hb e => (sb.2 b hb).trans e) f0 f1 f3 f4 f5
    obtain ⟨o, e, c, d⟩ := id st'
    exact ⟨u, rfl, go_of (s := { s with heap := h' }) e c d (by decide) ⟨x, H, I1, ru, ⟨rfl, fun ys hy => by rw [I.list_inj hy hq]; exact hx⟩, st', fun b hb => (hf b hb).1⟩⟩
  done := by
    intro X hP hw hK hc i pins s σ H E I hf st hg
    subst hP hw hK
    obtain ⟨xs, hq, hx⟩ := hg
    obtain ⟨its, rv, p, hz⟩ := I.list hq
    obtain ⟨f0, f1, f2, f3, f4, f5⟩ := hf it (by simp)
    have hl := rv.length
    exact wpAny_pyNext_list_end (I.ok.hd hc) st p.isList (by simp; omega) fun h' eb => ⟨rfl, I.turned (t' := s.toks) (fun b o hb e => eb b o hb e) f0 f1 f3 f4 f5⟩
  self := fun _ _ _ _ _ st h => wpAny_pyIter_listiter st h
theorem turn_range {P : Program} {w : World} {K : PySem.W.Frag} {tg : Expr} (it : Addr) (lo : Int) (n : Nat) : Turn P w K tg (Itr lo n) [it] it (fun i h => IsRangeIter h it (lo + (i : Nat) * 1) ((n : Int) - (i : Nat)) 1) where
  mem := by simp
  obj := fun i h st b hb => by
    have e : b = it := by simpa using hb
    subst e
    exact ⟨_, st, fun v z => by
      have z' : Data.fields _ = Data.cell v := z
      cases z'⟩
  keep := fun i h h' st k => k it (by simp) _ st
  item := by
    intro X hP hw hK hc i pins s σ H E I hf st hg
    subst hP hw hK
    obtain ⟨f0, f1, f2, f3, f4, f5⟩ := hf it (by simp)
    have W := Walks.range (prog := X.prog) (w := X.w) (I.ok.hd hc) it lo 1 n
    refine W.item i s _ _ hg st fun v h' tk hv st' kk => ?_
    obtain ⟨t, rfl⟩ := hv
    have I1 : Inv X pins σ H { s with heap := h', toks := tk } := I.turned (fun b o hb e => kk b o (by simpa using hb) e) f0 f1 f3 f4 f5
    refine ⟨_, rfl, go_of (s := { s with heap := h', toks := tk }) (n := "range_iterator") st' rfl rfl (by decide) ⟨.int (lo + i), H, I1, ⟨t, ?_⟩, ⟨rfl, rfl⟩, st', fun b hb => (hf b hb).1⟩⟩
    rw [Int.mul_one]
  done := by
    intro X hP hw hK hc i pins s σ H E I hf st hg
    subst hP hw hK
    obtain ⟨f0, f1, f2, f3, f4, f5⟩ := hf it (by simp)
    exact wpAny_pyNext_range_end (I.ok.hd hc) st (by have : n ≤ i := hg; omega) fun h' eb => ⟨rfl, I.turned (t' := s.toks) (fun b o hb e => eb b o hb e) f0 f1 f3 f4 f5⟩
  self := fun _ _ _ _ _ st h => wpAny_pyIter_rangeiter st h
end L2

namespace L2
open PySem PySem.Spec PyProof.Rows
section
variable {X : Cx} {tg : Expr}
noncomputable def iList (K : PySem.W.Frag) (tl : TE) : TI := fun σ H R => tl σ H fun x H1 => ∃ a, x = .ref a ∧ (∃ xs, SqL K H1 a xs) ∧ R (Itl K a) H1
theorem pi_list {l : Expr} {tl : TE} (hl : PE X l tl) : PI X tg l (iList X.K tl) := by
  intro pins s σ H R I h
  refine thn (hl pins s σ H _ I h) fun v s1 ⟨x, H1, I1, r1, q1⟩ => ?_
  obtain ⟨a, e, ⟨xs, hq⟩, q⟩ := q1
  subst e
  cases r1
  obtain ⟨its, rv, p, hz⟩ := I1.list hq
  refine wpAny_pyIter_list p.isList ?_
  refine ⟨s1.heap.objs.size, [s1.heap.objs.size], _, _, H1, rfl, I1.kept (t' := s1.toks) fun b o e => Heap.get?_push_of_some _ e, turn_list a _, ⟨_, Heap.get?_push_size _ rfl, rfl, rfl⟩, fun b hb => ?_, q⟩
  have e : b = s1.heap.objs.size := by simpa using hb
  subst e
  exact I1.fpOk (Nat.le_refl _) (I1.hok.fresh (Nat.le_refl _))
/-- a range object just made, walked -/
theorem range_it {pins : List (Addr × Obj)} {σ : St} {H : Hp} {s : Shared} {R : It → Hp → Prop} {E : Value → Shared → Prop} {lo hi : Int} {t u v : Tok} {tk : Nat} (I : Inv X pins σ H s) (h1 : -(2 ^ 62) ≤ lo) (h2 : lo < 2 ^ 62) (h3 : -(2 ^ 62) ≤ hi) (h4 : hi < 2 ^ 62)
    (q : R (Itr lo (hi - lo).toNat) H) : wpAny (model X.prog X.w) X.A (pyIter (.ref s.heap.objs.size)) (PIE X pins σ tg R) E { s with heap := s.heap.push { cls := .type "range", data := .fields #[.int lo t, .int hi u, .int 1 v] }, toks := tk } := by
  refine wpAny_pyIter_range (IsRange.new ..) (small_one h1 h2 h3 h4) ?_
  have I1 : Inv X pins σ H { s with heap := s.heap.push { cls := .type "range", data := .fields #[.int lo t, .int hi u, .int 1 v] }, toks := tk } := I.kept fun b o e => Heap.get?_push_of_some _ e
  refine ⟨(s.heap.push { cls := .type "range", data := .fields #[.int lo t, .int hi u, .int 1 v] }).objs.size, [(s.heap.push { cls := .type "range", data := .fields #[.int lo t, .int hi u, .int 1 v] }).objs.size], _, _, H, rfl,
    I1.kept (t' := tk) fun b o e => Heap.get?_push_of_some _ e, turn_range _ lo (hi - lo).toNat, ?_, fun b hb => ?_, q⟩
  · have e1 : lo + ((0 : Nat) : Int) * 1 = lo := by simp
    have e2 : (((hi - lo).toNat : Nat) : Int) - ((0 : Nat) : Int) = Builtin.Range.rangeSize lo hi 1 := by rw [rangeSize_one]; split <;> omega
    show IsRangeIter _ _ (lo + ((0 : Nat) : Int) * 1) ((((hi - lo).toNat : Nat) : Int) - ((0 : Nat) : Int)) 1
    rw [e1, e2]
    exact Heap.get?_push_size _ rfl
  · have e : b = (s.heap.push { cls := .type "range", data := .fields #[.int lo t, .int hi u, .int 1 v] }).objs.size := by simpa using hb
    subst e
    exact I1.fpOk (Nat.le_refl _) (I1.hok.fresh (Nat.le_refl _))
noncomputable def iRng1 (ta : TA) : TI := fun σ H R => ta σ H fun vs H1 => ∃ j : Int, vs = [.int j] ∧ -(2 ^ 62) ≤ j ∧ j < 2 ^ 62 ∧ R (Itr 0 j.toNat) H1
theorem pi_range1 {a : Expr} {ta : TA} {p pos : Pos} (hg : Gl X "range") (hm : X.mg "range" = none) (ha : PA X [a] ta) (hs : starEach [a] X.env = [(false, eval a X.env)] := by rfl) : PI X tg (.Call (.Name "range" p) [a] [] pos) (iRng1 ta) := by
  intro pins s σ H R I h
  refine Call_ (ld_blt I hg hm boot_range (PyProof.Rows.callWith_type1 (thn (ha pos pins s σ H _ I h) fun us s1 ⟨vs, H1, I1, r1, q1⟩ => ?_) hs rfl))
  obtain ⟨j, e, q1, q2, q⟩ := q1
  subst e
  cases r1 with
  | cons r rr =>
    cases rr
    obtain ⟨t, rfl⟩ := r
    exact call_range_1 (range_it I1 (by omega) (by omega) q1 q2 (by simpa using q))

/-! ### for -/
/-- W: the invariant by the turn and a measure; N: what the body is to reach -/
noncomputable def tFor (wi : TI) (g : TG) (tb : TS) : TS := fun D σ H => wi σ H fun J H1 => ∃ W : Nat → Nat → St → Hp → Prop, (∃ m, W 0 m σ H1) ∧ ∀ i m σ H, W i m σ H →
  (J.stop i H ∧ D.nx σ H) ∨ (J.go i H ∧ ∃ N : St → Hp → Prop, (∀ σ' H', N σ' H' → ∃ m', m' < m ∧ W (i + 1) m' σ' H') ∧ ∀ x H', J.yld i H x H' → g x σ H' fun σ2 H2 => tb { D with nx := N, ct := N, bk := D.nx } σ2 H2)
/-- the records at fp as they stand -/
noncomputable def pinsAt (fp : List Addr) (h : Heap) : List (Addr × Obj) := fp.filterMap fun b => (h.get? b).map fun o => (b, o)
theorem mem_pinsAt {fp : List Addr} {h : Heap} {b : Addr} {o : Obj} (hb : b ∈ fp) (e : h.get? b = some o) : (b, o) ∈ pinsAt fp h := List.mem_filterMap.mpr ⟨b, hb, by rw [e]; rfl⟩
theorem of_pinsAt {fp : List Addr} {h : Heap} {p : Addr × Obj} (hp : p ∈ pinsAt fp h) : p.1 ∈ fp ∧ h.get? p.1 = some p.2 := by
  obtain ⟨b, hb, e⟩ := List.mem_filterMap.mp hp
  cases q : h.get? b with
  | none => rw [q] at e; cases e
  | some o =>
    rw [q] at e
    have e' : (b, o) = p := Option.some.inj e
    subst e'
    exact ⟨hb, q⟩
theorem Inv.pinned {pins : List (Addr × Obj)} {σ : St} {H : Hp} {s : Shared} {fp : List Addr} (I : Inv X pins σ H s) (hf : ∀ b ∈ fp, FpOk X pins H b) (ho : ∀ b ∈ fp, ∃ o, s.heap.get? b = some o ∧ ∀ v, o.data ≠ .cell v) : Inv X (pins ++ pinsAt fp s.heap) σ H s :=
  I.pins_of fun p hp => (List.mem_append.mp hp).elim (fun z => I.pin p (List.mem_append_right _ z)) fun z => by
    obtain ⟨hb, e⟩ := of_pinsAt z
    obtain ⟨f0, f1, f2, _⟩ := hf p.1 hb
    obtain ⟨o, e', d⟩ := ho p.1 hb
    rw [e] at e'; cases e'
    exact ⟨e, f0, f1, f2, d⟩
theorem Inv.unpinned {pins pl : List (Addr × Obj)} {σ : St} {H : Hp} {s : Shared} (I : Inv X (pins ++ pl) σ H s) : Inv X pins σ H s := I.pins_of fun p hp => I.pin p (List.mem_append_right _ (List.mem_append_left _ hp))
theorem ps_for {iter : Expr} {body : List Stmt} {wi : TI} {g : TG} {tb : TS} {pos : Pos} (hp : PassesOwn (model X.prog X.w) X.A X.env X.xe) (hc : X.calm = true) (hi : PI X tg iter wi) (hg : PG X tg g) (hb : PSs X body tb)
    (hs : ∀ x, foldedSetIterable iter X.env x = pure x := by intro _; rfl) : PS X (.For tg iter body [] pos) (tFor wi g tb) := by
  intro pins s σ H D I h
  refine wpAny_For (thn (hi pins s σ H _ I h) fun v s1 h1 => thn h1 fun itv s2 h2 => ?_) hs
  obtain ⟨it, fp, tn, J, H2, e, I2, T, st2, f2, W, ⟨m0, w0⟩, turn⟩ := h2
  subst e
  -- what stays true of the iterator's objects through the loop
  have stat : ∀ {H' : Hp}, (∀ b ∈ fp, H' b = none) → ∀ b ∈ fp, FpOk X pins H' b := fun hn b hb => ⟨hn b hb, (f2 b hb).2⟩
  refine codeAny_forLoop_any (fun n s' => ∃ i σ' H', Inv X pins σ' H' s' ∧ tn i s'.heap ∧ (∀ b ∈ fp, H' b = none) ∧ W i n σ' H') ?_ m0 ⟨0, σ, H2, I2, st2, fun b hb => (f2 b hb).1, w0⟩
  rintro n s3 ⟨i, σ3, H3, I3, st3, fr3, w3⟩
  rcases turn i n σ3 H3 w3 with ⟨stop, qn⟩ | ⟨go, N, hN, step⟩
  · refine wpAny_passesOwn hp (thn (T.done X rfl rfl rfl hc i pins s3 σ3 H3 X.xe I3 (stat fr3) st3 stop) fun r s4 ⟨hr, I4⟩ => ?_)
    subst hr
    exact wpAny_execs_nil ⟨σ3, H3, I4, qn⟩
  · refine wpAny_passesOwn hp (thn (T.item X rfl rfl rfl hc i pins s3 σ3 H3 X.xe I3 (stat fr3) st3 go) fun r s4 ⟨u, hr, h4⟩ => ?_)
    subst hr
    refine wpAny_passesOwn hp (thn h4 fun _ s5 ⟨x, H5, I5, r5, y5, st5, fr5⟩ => ?_)
    have I5' := I5.pinned (stat fr5) (T.obj _ _ st5)
    refine wpAny_passesOwn hp (thn (hg _ s5 σ3 H5 x u _ I5' r5 (step x H5 y5)) fun _ s6 ⟨σ6, H6, I6, q6⟩ => ?_)
    refine wpAny_passesOwn hp (thn (hb _ s6 σ6 H6 _ I6 q6) fun f s7 q7 => ?_)
    have again : ∀ {σ7 : St} {H7 : Hp}, Inv X (pins ++ pinsAt fp s5.heap) σ7 H7 s7 → N σ7 H7 → ∃ m, m < n ∧ ∃ i σ' H', Inv X pins σ' H' s7 ∧ tn i s7.heap ∧ (∀ b ∈ fp, H' b = none) ∧ W i m σ' H' := fun {σ7 H7} I7 n7 => by
      obtain ⟨m', hm, w7⟩ := hN σ7 H7 n7
      refine ⟨m', hm, i + 1, σ7, H7, I7.unpinned, T.keep _ _ _ st5 fun b hb o e => (I7.pin (b, o) (List.mem_append_right _ (List.mem_append_right _ (mem_pinsAt hb e)))).1, fun b hb => ?_, w7⟩
      obtain ⟨o, e, d⟩ := T.obj _ _ st5 b hb
      exact (I7.pin (b, o) (List.mem_append_right _ (List.mem_append_right _ (mem_pinsAt hb e)))).2.1
    cases f with
    | next => obtain ⟨σ7, H7, I7, n7⟩ := q7; exact again I7 n7
    | cont => obtain ⟨σ7, H7, I7, n7⟩ := q7; exact again I7 n7
    | brk => obtain ⟨σ7, H7, I7, q7⟩ := q7; exact ⟨σ7, H7, I7.unpinned, q7⟩
    | ret v => obtain ⟨x7, σ7, H7, I7, r7, q7⟩ := q7; exact ⟨x7, σ7, H7, I7.unpinned, r7, q7⟩
end

/-! ### the forms one uses -/
/-- over a list that the body leaves as it is -/
theorem for_list {K : PySem.W.Frag} {a : Addr} {xs : List V} {g : TG} {tb : TS} {D : Ends} {σ : St} {H : Hp} (Pv : Nat → St → Hp → Prop) (h0 : Pv 0 σ H) (hl : ∀ i σ H, i ≤ xs.length → Pv i σ H → SqL K H a xs)
    (hs : ∀ i x σ H, xs[i]? = some x → Pv i σ H → g x σ H fun σ2 H2 => tb { D with nx := Pv (i + 1), ct := Pv (i + 1), bk := D.nx } σ2 H2) (hd : ∀ σ H, Pv xs.length σ H → D.nx σ H) :
    ∃ W : Nat → Nat → St → Hp → Prop, (∃ m, W 0 m σ H) ∧ ∀ i m σ H, W i m σ H →
      ((Itl K a).stop i H ∧ D.nx σ H) ∨ ((Itl K a).go i H ∧ ∃ N : St → Hp → Prop, (∀ σ' H', N σ' H' → ∃ m', m' < m ∧ W (i + 1) m' σ' H') ∧ ∀ x H', (Itl K a).yld i H x H' → g x σ H' fun σ2 H2 => tb { D with nx := N, ct := N, bk := D.nx } σ2 H2) := by
  refine ⟨fun i m σ H => m = xs.length - i ∧ i ≤ xs.length ∧ Pv i σ H, ⟨xs.length, by simp, Nat.zero_le _, h0⟩, ?_⟩
  rintro i m σ H ⟨rfl, hi, p⟩
  have q := hl i σ H hi p
  by_cases hlt : i < xs.length
  · refine .inr ⟨⟨xs, xs[i], q, by simp [hlt]⟩, Pv (i + 1), fun σ' H' p' => ⟨xs.length - (i + 1), by omega, rfl, hlt, p'⟩, fun x H' y => ?_⟩
    obtain ⟨e, y⟩ := y
    subst e
    exact hs i x σ _ (y xs q) p
  · have e : i = xs.length := by omega
    subst e
    exact .inl ⟨⟨xs, q, Nat.le_refl _⟩, hd σ H p⟩
end L2

namespace L2
open PySem PySem.Spec PyProof.Rows

noncomputable abbrev R2 := V → V → Hp → VK → Prop
/-- a two-place operation on values: f is binaryOp op, inplaceOp op or compareOp op -/
noncomputable def OpR (X : Cx) (f : Value → Value → Sem Value) (r : R2) : Prop :=
  ∀ (pins : List (Addr × Obj)) (s : Shared) (σ : St) (H : Hp) (x y : V) (v u : Value) (Q : VK), Inv X pins σ H s → RelV x v → RelV y u → r x y H Q →
    wpAny (model X.prog X.w) X.A (f v u) (EP X pins σ Q) X.xe s
/-- a one-place operation -/
noncomputable def UnR (X : Cx) (f : Value → Sem Value) (r : V → Hp → VK → Prop) : Prop :=
  ∀ (pins : List (Addr × Obj)) (s : Shared) (σ : St) (H : Hp) (x : V) (v : Value) (Q : VK), Inv X pins σ H s → RelV x v → r x H Q →
    wpAny (model X.prog X.w) X.A (f v) (EP X pins σ Q) X.xe s
/-- a call of a value that is known (a builtin, a type) with values -/
noncomputable def CallR (X : Cx) (f : Value) (r : List V → Hp → VK → Prop) : Prop :=
  ∀ (pins : List (Addr × Obj)) (s : Shared) (σ : St) (H : Hp) (xs : List V) (us : List Value) (Q : VK), Inv X pins σ H s → Vals xs us → r xs H Q →
    wpAny (model X.prog X.w) X.A (call f us) (EP X pins σ Q) X.xe s
/-- a value's truth -/
noncomputable def TruR (X : Cx) (r : V → Hp → (Bool → Hp → Prop) → Prop) : Prop :=
  ∀ (pins : List (Addr × Obj)) (s : Shared) (σ : St) (H : Hp) (x : V) (v : Value) (Q : Bool → Hp → Prop), Inv X pins σ H s → RelV x v → r x H Q →
    wpAny (model X.prog X.w) X.A (truthy v) (TP X pins σ Q) X.xe s

noncomputable def tOp (r : R2) (ta tb : TE) : TE := fun σ H Q => ta σ H fun x H1 => tb σ H1 fun y H2 => r x y H2 Q
noncomputable def tUn (r : V → Hp → VK → Prop) (ta : TE) : TE := fun σ H Q => ta σ H fun x H1 => r x H1 Q
/-- ints in, under C, and a value out -/
noncomputable def rI (C : Int → Int → Prop) (g : Int → Int → V) : R2 := fun x y H Q => ∃ i j, x = .int i ∧ y = .int j ∧ C i j ∧ Q (g i j) H
noncomputable def rI0 (g : Int → Int → V) : R2 := fun x y H Q => ∃ i j, x = .int i ∧ y = .int j ∧ Q (g i j) H
noncomputable def rU (g : Int → V) : V → Hp → VK → Prop := fun x H Q => ∃ i, x = .int i ∧ Q (g i) H

section
variable {X : Cx} {a b c : Expr} {ta tb tc : TE} {pos : Pos}

theorem binT (ha : PE X a ta) (hb : PE X b tb) {pins : List (Addr × Obj)} {s : Shared} {σ : St} {H : Hp} {R : V → V → Hp → Prop} (I : Inv X pins σ H s)
    (h : ta σ H fun x H1 => tb σ H1 fun y H2 => R x y H2) {Q : Value → Shared → Prop} {f : Value → Value → Sem Value}
    (hf : ∀ v u s2 x y H2, Inv X pins σ H2 s2 → RelV x v → RelV y u → R x y H2 → wpAny (model X.prog X.w) X.A (f v u) Q X.xe s2) :
    wpAny (model X.prog X.w) X.A (eval a X.env) (fun v s₁ => wpAny (model X.prog X.w) X.A (eval b X.env) (fun u s₂ => wpAny (model X.prog X.w) X.A (f v u) Q X.xe s₂) X.xe s₁) X.xe s := by
  refine thn (ha pins s σ H _ I h) fun v s1 ⟨x, H1, I1, r1, q1⟩ => ?_
  refine thn (hb pins s1 σ H1 _ I1 q1) fun u s2 ⟨y, H2, I2, r2, q2⟩ => ?_
  exact hf v u s2 x y H2 I2 r1 r2 q2

theorem pe_op {op : Operator} {r : R2} (ho : OpR X (binaryOp op) r) (ha : PE X a ta) (hb : PE X b tb) : PE X (.BinOp a op b pos) (tOp r ta tb) := by
  intro pins s σ H Q I h
  exact wpAny_BinOp (binT ha hb I h fun v u s2 x y H2 I2 rx ry q => ho pins s2 σ H2 x y v u Q I2 rx ry q)
theorem pe_un {op : UnaryOp} {r : V → Hp → VK → Prop} (ho : UnR X (unaryOp op) r) (ha : PE X a ta) : PE X (.UnaryOp op a pos) (tUn r ta) := by
  intro pins s σ H Q I h
  exact UnaryOp_ (thn (ha pins s σ H _ I h) fun v s1 ⟨x, H1, I1, r1, q1⟩ => ho pins s1 σ H1 x v Q I1 r1 q1)

/-! ### ints -/
theorem opI {f : Value → Value → Sem Value} {C : Int → Int → Prop} {g : Int → Int → Int}
    (rule : ∀ (i j : Int) (t u : Tok) (s : Shared) (Q : Value → Shared → Prop) (E : Value → Shared → Prop), C i j → Q (.int (g i j) s.toks) { s with toks := s.toks + 1 } → wpAny (model X.prog X.w) X.A (f (.int i t) (.int j u)) Q E s) :
    OpR X f (rI C fun i j => .int (g i j)) := by
  intro pins s σ H x y v u Q I rx ry h
  obtain ⟨i, j, rfl, rfl, hc, q⟩ := h
  obtain ⟨t, rfl⟩ := rx
  obtain ⟨t', rfl⟩ := ry
  exact rule i j t t' s _ _ hc ⟨.int (g i j), H, I.tok _, ⟨_, rfl⟩, q⟩
theorem opI0 {f : Value → Value → Sem Value} {g : Int → Int → Int}
    (rule : ∀ (i j : Int) (t u : Tok) (s : Shared) (Q : Value → Shared → Prop) (E : Value → Shared → Prop), Q (.int (g i j) s.toks) { s with toks := s.toks + 1 } → wpAny (model X.prog X.w) X.A (f (.int i t) (.int j u)) Q E s) :
    OpR X f (rI0 fun i j => .int (g i j)) := by
  intro pins s σ H x y v u Q I rx ry h
  obtain ⟨i, j, rfl, rfl, q⟩ := h
  obtain ⟨t, rfl⟩ := rx
  obtain ⟨t', rfl⟩ := ry
  exact rule i j t t' s _ _ ⟨.int (g i j), H, I.tok _, ⟨_, rfl⟩, q⟩
theorem opB0 {f : Value → Value → Sem Value} {g : Int → Int → Bool}
    (rule : ∀ (i j : Int) (t u : Tok) (s : Shared) (Q : Value → Shared → Prop) (E : Value → Shared → Prop), Q (.bool (g i j)) s → wpAny (model X.prog X.w) X.A (f (.int i t) (.int j u)) Q E s) :
    OpR X f (rI0 fun i j => .bl (g i j)) := by
  intro pins s σ H x y v u Q I rx ry h
  obtain ⟨i, j, rfl, rfl, q⟩ := h
  obtain ⟨t, rfl⟩ := rx
  obtain ⟨t', rfl⟩ := ry
  exact rule i j t t' s _ _ ⟨.bl (g i j), H, I, rfl, q⟩

noncomputable def CDiv (i j : Int) : Prop := 0 < j ∧ j < 1073741824
noncomputable def CPow (i j : Int) : Prop := 0 ≤ j ∧ j ≤ 1000000 ∧ i.natAbs < 2 ^ 64
noncomputable def CMul (i j : Int) : Prop := (-(2 ^ 64) < i ∧ i < 2 ^ 64) ∨ (-(2 ^ 64) < j ∧ j < 2 ^ 64)
theorem CMul.ok {i j : Int} (h : CMul i j) : IntMulOk i j := by
  rcases h with ⟨h1, h2⟩ | ⟨h1, h2⟩
  · exact .of_left (intBits_le_64 h1 h2)
  · exact .of_right (intBits_le_64 h1 h2)
theorem two_pow_nn (k : Nat) : (0 : Int) ≤ 2 ^ k := by
  rw [two_pow_cast]
  exact Int.natCast_nonneg _

theorem op_add : OpR X (binaryOp .Add) (rI0 fun i j => .int (i + j)) := opI0 fun _ _ _ _ _ _ _ q => add_int q
theorem op_sub : OpR X (binaryOp .Sub) (rI0 fun i j => .int (i - j)) := opI0 fun _ _ _ _ _ _ _ q => sub_int q
theorem op_mul : OpR X (binaryOp .Mult) (rI CMul fun i j => .int (i * j)) := opI fun _ _ _ _ _ _ _ hc q => mul_int q hc.ok
/-- // by a positive divisor -/
theorem op_fdiv : OpR X (binaryOp .FloorDiv) (rI CDiv fun i j => .int (i / j)) := opI fun i j _ _ _ _ _ hc q => by
  have h1 : (0 : Int) < j := hc.1
  have h2 : j < 1073741824 := hc.2
  exact floordiv_int (by omega) (by rw [Int.fdiv_eq_ediv_of_nonneg i (by omega)]; exact q) (.inl (PyProof.noPylong_small (by omega)))
/-- % by a positive divisor of any size -/
theorem op_mod : OpR X (binaryOp .Mod) (rI (fun _ j => 0 < j) fun i j => .int (i % j)) := opI fun i j _ _ _ _ _ hc q => by
  have h1 : (0 : Int) < j := hc
  exact mod_int' (by omega) (by rw [Int.fmod_eq_emod_of_nonneg i (by omega)]; exact q)
theorem op_pow : OpR X (binaryOp .Pow) (rI CPow fun i j => .int (i ^ j.toNat)) := opI fun _ _ _ _ _ _ _ hc q => pow_int_small hc.1 hc.2.1 hc.2.2 q
theorem op_shr : OpR X (binaryOp .RShift) (rI (fun _ j => 0 ≤ j) fun i j => .int (i / 2 ^ j.toNat)) := opI fun i j _ _ _ _ _ hc q =>
  rshift_int hc (by rw [Int.fdiv_eq_ediv_of_nonneg i (two_pow_nn _)]; exact q)


theorem unI {f : Value → Sem Value} {g : Int → Int}
    (rule : ∀ (i : Int) (t : Tok) (s : Shared) (Q : Value → Shared → Prop) (E : Value → Shared → Prop), Q (.int (g i) s.toks) { s with toks := s.toks + 1 } → wpAny (model X.prog X.w) X.A (f (.int i t)) Q E s) :
    UnR X f (rU fun i => .int (g i)) := by
  intro pins s σ H x v Q I rx h
  obtain ⟨i, rfl, q⟩ := h
  obtain ⟨t, rfl⟩ := rx
  exact rule i t s _ _ ⟨.int (g i), H, I.tok _, ⟨_, rfl⟩, q⟩
theorem un_neg : UnR X (unaryOp .USub) (rU fun i => .int (-i)) := unI fun _ _ _ _ _ q => neg_int q

/-! ### bools among ints: n += (a < b) -/
end

/-! ### comparisons -/
/-- the scalars that == tells apart as data does -/
noncomputable def scal : V → V → Bool
  | .non, .non => true | .non, .int _ => true | .int _, .non => true | .non, .bl _ => true | .bl _, .non => true | .non, .str _ => true | .str _, .non => true
  | .int _, .int _ => true | .bl _, .bl _ => true | .str _, .str _ => true | .byt _, .byt _ => true
  | .int _, .str _ => true | .str _, .int _ => true | .bl _, .str _ => true | .str _, .bl _ => true
  | _, _ => false
noncomputable def rEq : R2 := fun x y H Q => scal x y = true ∧ Q (.bl (decide (x = y))) H
noncomputable def rNe : R2 := fun x y H Q => scal x y = true ∧ Q (.bl (!decide (x = y))) H

theorem dec_int {i j : Int} : decide (V.int i = V.int j) = (i == j) := by
  rw [Bool.eq_iff_iff]
  simp
theorem dec_bl {i j : Bool} : decide (V.bl i = V.bl j) = (i == j) := by
  rw [Bool.eq_iff_iff]
  simp
theorem dec_str {i j : Str} : decide (V.str i = V.str j) = (i == j) := by
  rw [Bool.eq_iff_iff]
  simp
theorem dec_byt {i j : Array UInt8} : decide (V.byt i = V.byt j) = (i.toList == j.toList) := by
  rw [Bool.eq_iff_iff]
  cases i
  cases j
  simp

section
variable {X : Cx} {a b c : Expr} {ta tb tc : TE} {pos : Pos}
theorem fin_bl {pins : List (Addr × Obj)} {σ : St} {H : Hp} {s : Shared} {Q : VK} {k k' : Bool} (I : Inv X pins σ H s) (q : Q (.bl k) H) (e : k = k') : EP X pins σ Q (.bool k') s := by
  subst e
  exact ⟨.bl k, H, I, rfl, q⟩
theorem op_eq : OpR X (compareOp .Eq) rEq := by
  intro pins s σ H x y v u Q I rx ry h
  obtain ⟨hs, q⟩ := h
  cases x with
  | non =>
    cases rx
    cases y with
    | non => cases ry; exact PySem.EqNone.eq_none_none (fin_bl I q (by simp))
    | bl j => cases ry; exact PySem.EqNone.eq_none_bool (fin_bl I q (by simp))
    | int j => obtain ⟨t', rfl⟩ := ry; exact PySem.EqNone.eq_none_int (fin_bl I q (by simp))
    | str j => obtain ⟨t', rfl⟩ := ry; exact PySem.EqNone.eq_none_str (fin_bl I q (by simp))
    | _ => exact absurd (show false = true from hs) Bool.false_ne_true
  | bl i =>
    cases rx
    cases y with
    | non => cases ry; exact PySem.EqNone.eq_bool_none (fin_bl I q (by simp))
    | bl j => cases ry; exact eq_bool (fin_bl I q dec_bl)
    | str j => obtain ⟨t', rfl⟩ := ry; exact PySem.EqMixed.eq_bool_str (fin_bl I q (by simp))
    | _ => exact absurd (show false = true from hs) Bool.false_ne_true
  | int i =>
    obtain ⟨t, rfl⟩ := rx
    cases y with
    | non => cases ry; exact PySem.EqNone.eq_int_none (fin_bl I q (by simp))
    | int j => obtain ⟨t', rfl⟩ := ry; exact eq_int (fin_bl I q dec_int)
    | str j => obtain ⟨t', rfl⟩ := ry; exact PySem.EqMixed.eq_int_str (fin_bl I q (by simp))
    | _ => exact absurd (show false = true from hs) Bool.false_ne_true
  | str i =>
    obtain ⟨t, rfl⟩ := rx
    cases y with
    | non => cases ry; exact PySem.EqNone.eq_str_none (fin_bl I q (by simp))
    | bl j => cases ry; exact PySem.EqMixed.eq_str_bool (fin_bl I q (by simp))
    | int j => obtain ⟨t', rfl⟩ := ry; exact PySem.EqMixed.eq_str_int (fin_bl I q (by simp))
    | str j => obtain ⟨t', rfl⟩ := ry; exact eq_str (fin_bl I q dec_str)
    | _ => exact absurd (show false = true from hs) Bool.false_ne_true
  | byt i =>
    obtain ⟨t, rfl⟩ := rx
    cases y with
    | byt j => obtain ⟨t', rfl⟩ := ry; exact PySem.W.eq_bytes (fin_bl I q dec_byt)
    | _ => exact absurd (show false = true from hs) Bool.false_ne_true
  | _ => cases y <;> exact absurd (show false = true from hs) Bool.false_ne_true
theorem op_ne : OpR X (compareOp .NotEq) rNe := by
  intro pins s σ H x y v u Q I rx ry h
  obtain ⟨hs, q⟩ := h
  cases x with
  | non =>
    cases rx
    cases y with
    | non => cases ry; exact PySem.EqNone.ne_none_none (fin_bl I q (by simp))
    | bl j => cases ry; exact PySem.EqNone.ne_none_bool (fin_bl I q (by simp))
    | int j => obtain ⟨t', rfl⟩ := ry; exact PySem.EqNone.ne_none_int (fin_bl I q (by simp))
    | str j => obtain ⟨t', rfl⟩ := ry; exact PySem.EqNone.ne_none_str (fin_bl I q (by simp))
    | _ => exact absurd (show false = true from hs) Bool.false_ne_true
  | bl i =>
    cases rx
    cases y with
    | non => cases ry; exact PySem.EqNone.ne_bool_none (fin_bl I q (by simp))
    | bl j => cases ry; exact ne_bool (fin_bl I q (congrArg not dec_bl))
    | str j => obtain ⟨t', rfl⟩ := ry; exact PySem.EqMixed.ne_bool_str (fin_bl I q (by simp))
    | _ => exact absurd (show false = true from hs) Bool.false_ne_true
  | int i =>
    obtain ⟨t, rfl⟩ := rx
    cases y with
    | non => cases ry; exact PySem.EqNone.ne_int_none (fin_bl I q (by simp))
    | int j => obtain ⟨t', rfl⟩ := ry; exact ne_int (fin_bl I q (congrArg not dec_int))
    | str j => obtain ⟨t', rfl⟩ := ry; exact PySem.EqMixed.ne_int_str (fin_bl I q (by simp))
    | _ => exact absurd (show false = true from hs) Bool.false_ne_true
  | str i =>
    obtain ⟨t, rfl⟩ := rx
    cases y with
    | non => cases ry; exact PySem.EqNone.ne_str_none (fin_bl I q (by simp))
    | bl j => cases ry; exact PySem.EqMixed.ne_str_bool (fin_bl I q (by simp))
    | int j => obtain ⟨t', rfl⟩ := ry; exact PySem.EqMixed.ne_str_int (fin_bl I q (by simp))
    | str j => obtain ⟨t', rfl⟩ := ry; exact ne_str (fin_bl I q (congrArg not dec_str))
    | _ => exact absurd (show false = true from hs) Bool.false_ne_true
  | byt i =>
    obtain ⟨t, rfl⟩ := rx
    cases y with
    | byt j => obtain ⟨t', rfl⟩ := ry; exact PySem.W.ne_bytes (fin_bl I q (congrArg not dec_byt))
    | _ => exact absurd (show false = true from hs) Bool.false_ne_true
  | _ => cases y <;> exact absurd (show false = true from hs) Bool.false_ne_true

theorem op_lt : OpR X (compareOp .Lt) (rI0 fun i j => .bl (decide (i < j))) := opB0 fun _ _ _ _ _ _ _ q => lt_int q
theorem op_le : OpR X (compareOp .LtE) (rI0 fun i j => .bl (decide (i ≤ j))) := opB0 fun _ _ _ _ _ _ _ q => le_int q
theorem op_gt : OpR X (compareOp .Gt) (rI0 fun i j => .bl (decide (j < i))) := opB0 fun _ _ _ _ _ _ _ q => gt_int q
/-- the one string within the other -/
theorem op_in_str : OpR X (compareOp .In) (fun x y H Q => ∃ i j, x = .str i ∧ y = .str j ∧ Q (.bl (!(Builtin.Str.occurrences j i 0 j.length 1).isEmpty)) H) := by
  intro pins s σ H x y v u Q I rx ry h
  obtain ⟨i, j, rfl, rfl, q⟩ := h
  obtain ⟨t, rfl⟩ := rx
  obtain ⟨t', rfl⟩ := ry
  exact in_str (fin_bl I q rfl)




theorem nomark (b : Expr) {op : CmpOp} (h : op ≠ .In := by decide) (h2 : op ≠ .NotIn := by decide) : behindInMarks op b = false := by
  have e1 : (op == CmpOp.In) = false := by cases op <;> first | rfl | exact absurd rfl h
  have e2 : (op == CmpOp.NotIn) = false := by cases op <;> first | rfl | exact absurd rfl h2
  cases b <;> simp [behindInMarks, e1, e2]
/-- a comparison as a value; hm: nomark b, or (for in, not in) by with_unfolding_all rfl -/
theorem pe_cmpR {op : CmpOp} {r : R2} (ho : OpR X (compareOp op) r) (ha : PE X a ta) (hb : PE X b tb) (hm : behindInMarks op b = false) : PE X (.Compare a [op] [b] pos) (tOp r ta tb) := by
  intro pins s σ H Q I h
  exact wpAny_Compare1 (binT ha hb I h fun v u s2 x y H2 I2 rx ry q => ho pins s2 σ H2 x y v u Q I2 rx ry q) hm
/-- a reading of a value as a test -/
noncomputable def tTest (t : TE) : TT := fun σ H Q => t σ H fun x H' => ∃ k, x = .bl k ∧ Q k H'
theorem pt_cmpR {op : CmpOp} {r : R2} (ho : OpR X (compareOp op) r) (ha : PE X a ta) (hb : PE X b tb) (hm : behindInMarks op b = false) : PT X (.Compare a [op] [b] pos) (tTest (tOp r ta tb)) := by
  intro pins s σ H Q I h
  refine wpAny_isTrue_Compare1 (thn (ha pins s σ H _ I h) fun v s1 ⟨x, H1, I1, r1, q1⟩ => thn (hb pins s1 σ H1 _ I1 q1) fun u s2 ⟨y, H2, I2, r2, q2⟩ =>
    thn (ho pins s2 σ H2 x y v u _ I2 r1 r2 q2) fun c s3 ⟨z, H3, I3, r3, k, e, q3⟩ => ?_) hm
  subst e
  cases r3
  exact wpAny_truthy_bool ⟨H3, I3, q3⟩
/-- a op1 b op2 c -/
noncomputable def tChain (r r' : R2) (ta tb tc : TE) : TE := fun σ H Q => ta σ H fun x H1 => tb σ H1 fun y H2 => r x y H2 fun z H3 => ∃ k, z = .bl k ∧
  (if k = true then tc σ H3 fun w' H4 => r' y w' H4 Q else Q (.bl false) H3)
theorem pe_chain {op op' : CmpOp} {r r' : R2} (ho : OpR X (compareOp op) r) (ho' : OpR X (compareOp op') r') (ha : PE X a ta) (hb : PE X b tb) (hc : PE X c tc)
    (hm : lastMarks [op, op'] [b, c] = false := by with_unfolding_all rfl) : PE X (.Compare a [op, op'] [b, c] pos) (tChain r r' ta tb tc) := by
  intro pins s σ H Q I h
  refine Compare_chain (thn (ha pins s σ H _ I h) fun v s1 ⟨x, H1, I1, r1, q1⟩ => chain_link (thn (hb pins s1 σ H1 _ I1 q1) fun u s2 ⟨y, H2, I2, r2, q2⟩ =>
    thn (ho pins s2 σ H2 x y v u _ I2 r1 r2 q2) fun d s3 ⟨z, H3, I3, r3, k, e, q3⟩ => ?_)) hm
  subst e
  cases r3
  refine wpAny_truthy_bool ?_
  cases k with
  | false => exact ite_ff ⟨.bl false, H3, I3, rfl, q3⟩
  | true => exact ite_tt (chain_last (thn (hc pins s3 σ H3 _ I3 q3) fun w' s4 ⟨z', H4, I4, r4, q4⟩ => ho' pins s4 σ H4 y z' u w' Q I4 r2 r4 q4))
theorem pt_chain {op op' : CmpOp} {r r' : R2} (ho : OpR X (compareOp op) r) (ho' : OpR X (compareOp op') r') (ha : PE X a ta) (hb : PE X b tb) (hc : PE X c tc)
    (hm : lastMarks [op, op'] [b, c] = false := by with_unfolding_all rfl) : PT X (.Compare a [op, op'] [b, c] pos) (tTest (tChain r r' ta tb tc)) := by
  intro pins s σ H Q I h
  refine isTrue_chain (thn (ha pins s σ H _ I h) fun v s1 ⟨x, H1, I1, r1, q1⟩ => test_link (thn (hb pins s1 σ H1 _ I1 q1) fun u s2 ⟨y, H2, I2, r2, q2⟩ =>
    thn (ho pins s2 σ H2 x y v u _ I2 r1 r2 q2) fun d s3 ⟨z, H3, I3, r3, k, e, q3⟩ => ?_)) hm
  subst e
  cases r3
  refine wpAny_truthy_bool ?_
  cases k with
  | false =>
    obtain ⟨k', e', q'⟩ := q3
    cases e'
    exact ite_ff ⟨H3, I3, q'⟩
  | true =>
    refine ite_tt (test_last (thn (hc pins s3 σ H3 _ I3 q3) fun w' s4 ⟨z', H4, I4, r4, q4⟩ => thn (ho' pins s4 σ H4 y z' u w' _ I4 r2 r4 q4) fun d' s5 ⟨z2, H5, I5, r5, k2, e2, q5⟩ => ?_))
    subst e2
    cases r5
    exact wpAny_truthy_bool ⟨H5, I5, q5⟩

/-! ### truth -/
/-- a value's truth by the abstract heap -/
noncomputable def TruV (K : PySem.W.Frag) (x : V) (H : Hp) (k : Bool) : Prop :=
  match x with
  | .non => k = false
  | .bl b => k = b
  | .int i => k = (i != 0)
  | .str y => y.length ≤ sizeLine ∧ k = ((y.length : Int) != 0)
  | .byt y => y.size ≤ sizeLine ∧ k = ((y.size : Int) != 0)
  | .ref p => (∃ xs, SqL K H p xs ∧ k = !xs.isEmpty) ∨ (∃ xs, SqT K H p xs ∧ k = !xs.isEmpty) ∨ ∃ kvs, H p = some (.dK kvs) ∧ k = !kvs.isEmpty
  | _ => False
theorem isEmpty_kv {κ : Type} {kvs : List (κ × V)} {vs : List (κ × Value)} (r : KV kvs vs) : (!vs.isEmpty) = !kvs.isEmpty := by
  cases r <;> rfl
theorem isEmpty_of {xs : List V} {its : List Value} (r : Vals xs its) : (!its.toArray.isEmpty) = !xs.isEmpty := by
  cases r <;> simp
theorem line63 : (sizeLine : Nat) < 2 ^ 63 := by rw [sizeLine_eq]; decide
theorem tru_ok : TruR X (fun x H Q => ∃ k, TruV X.K x H k ∧ Q k H) := by
  intro pins s σ H x v Q I rx h
  obtain ⟨k, e, q⟩ := h
  have hl := line63
  have hs : sizeLine = 16777216 := sizeLine_eq
  cases x with
  | non =>
    cases rx
    have e' : k = false := e
    subst e'
    exact truthy_none ⟨H, I, q⟩
  | bl b =>
    cases rx
    have e' : k = b := e
    subst e'
    exact wpAny_truthy_bool ⟨H, I, q⟩
  | int i =>
    obtain ⟨t, rfl⟩ := rx
    have e' : k = (i != 0) := e
    subst e'
    exact PySem.P.truthy_int ⟨H, I, q⟩
  | str y =>
    obtain ⟨t, rfl⟩ := rx
    obtain ⟨hy, e'⟩ : y.length ≤ sizeLine ∧ k = ((y.length : Int) != 0) := e
    subst e'
    exact PySem.P.truthy_str (by omega) ⟨H, I.tok _, q⟩
  | byt y =>
    obtain ⟨t, rfl⟩ := rx
    obtain ⟨hy, e'⟩ : y.size ≤ sizeLine ∧ k = ((y.size : Int) != 0) := e
    subst e'
    exact PySem.W.truthy_bytes (by omega) ⟨H, I.tok _, q⟩
  | ref p =>
    cases rx
    have e' : (∃ xs, SqL X.K H p xs ∧ k = !xs.isEmpty) ∨ (∃ xs, SqT X.K H p xs ∧ k = !xs.isEmpty) ∨ ∃ kvs, H p = some (.dK kvs) ∧ k = !kvs.isEmpty := e
    rcases e' with ⟨xs, hx, e'⟩ | ⟨xs, hx, e'⟩ | ⟨kvs, hx, e'⟩
    · subst e'
      obtain ⟨its, r, pl, hz⟩ := I.list hx
      have hlen := r.length
      exact wpAny_truthy_list pl.isList (by simp only [List.size_toArray]; omega) ⟨H, I.tok _, by rw [isEmpty_of r]; exact q⟩
    · subst e'
      obtain ⟨its, r, pl, hz⟩ := I.tuple hx
      have hlen := r.length
      exact truthy_tuple pl (by simp only [List.size_toArray]; omega) ⟨H, I.tok _, by rw [isEmpty_of r]; exact q⟩
    · subst e'
      obtain ⟨hz, hS, vs, r, m⟩ : kvs.length ≤ sizeLine ∧ (p == sysModules) = false ∧ ∃ vs, KV kvs vs ∧ s.heap.DictOf (mixKind X.prog X.w) p vs := I.hok p _ hx
      have hlen : kvs.length = vs.length := Paired.length r
      exact wpAny_truthy_dict hS m (by omega) ⟨H, I.tok _, by rw [isEmpty_kv r]; exact q⟩
  | _ => exact (show False from e).elim
/-- any expression whose test is its value's truth (a name, a call, a subscript, a field ..: he by fun _ => rfl) -/
theorem pt_truth (ha : PE X a ta) (he : ∀ whole, isTrue a X.env whole = (do let v ← whole; standAt a.pos; holding [v] (truthy v))) :
    PT X a (fun σ H Q => ta σ H fun x H' => ∃ k, TruV X.K x H' k ∧ Q k H') := by
  intro pins s σ H Q I h
  exact isTrue_plain (thn (ha pins s σ H _ I h) fun v s1 ⟨x, H1, I1, r1, q1⟩ => tru_ok pins s1 σ H1 x v Q I1 r1 q1) (he _)

/-! ### strs and bytes -/


/-! ### scalar builtins, by CallR -/
theorem vals1 {x : V} {us : List Value} (r : Vals [x] us) : ∃ u, us = [u] ∧ RelV x u := by
  cases r with
  | cons r1 r2 => cases r2; exact ⟨_, rfl, r1⟩
theorem vals2 {x y : V} {us : List Value} (r : Vals [x, y] us) : ∃ u w', us = [u, w'] ∧ RelV x u ∧ RelV y w' := by
  cases r with
  | cons r1 r2 =>
    cases r2 with
    | cons r3 r4 => cases r4; exact ⟨_, _, rfl, r1, r3⟩
theorem call_int1 : CallR X (.type "int") (fun xs H Q => (∃ i, xs = [.int i] ∧ Q (.int i) H) ∨ ∃ k, xs = [.bl k] ∧ Q (.int (if k then 1 else 0)) H) := by
  intro pins s σ H xs us Q I r h
  rcases h with ⟨i, rfl, q⟩ | ⟨k, rfl, q⟩
  · obtain ⟨u, rfl, t, rfl⟩ := vals1 r
    exact call_int_int ⟨.int i, H, I, ⟨_, rfl⟩, q⟩
  · obtain ⟨u, rfl, r1⟩ := vals1 r
    cases r1
    exact call_int_bool ⟨.int (if k then 1 else 0), H, I.tok _, ⟨_, rfl⟩, q⟩
end
end L2

namespace L2
open PySem PySem.Spec PyProof.Rows

/-! ### an instance, its attributes a map -/
structure ObjM (h : Heap) (x dx C : Addr) (mA : Str → Option Value) : Prop where
  obj : h.get? x = some (PySem.W.instObj C dx)
  ns : h.Ns1 dx mA
  ne : dx ≠ x

theorem lookIn_ns {h : Heap} {dx : Addr} {mA : Str → Option Value} (n : h.Ns1 dx mA) : ∃ od, h.get? dx = some od ∧ ∀ name, PySem.W.lookIn name od = some (mA name) := by
  obtain ⟨o, es, ep, ho, hd, hk, _, hm⟩ := n
  refine ⟨o, ho, fun name => ?_⟩
  have e := hm name
  unfold nsFind findBy at e
  rw [← Array.find?_toList] at e
  unfold PySem.W.lookIn
  rw [hd]
  dsimp only
  split
  · rename_i y q
    rw [q] at e
    exact congrArg some e
  · rename_i q
    rw [q] at e
    have a : es.toList.any (·.refKey) = false := by
      rw [List.any_eq_false]
      intro y hy
      obtain ⟨z, t, hkey⟩ := hk y (Array.mem_toList_iff.mp hy)
      simp [DictEntry.refKey, hkey]
    have a' : ¬ es.toList.any (·.refKey) = true := by rw [a]; exact Bool.false_ne_true
    rw [if_neg a']
    exact congrArg some e

theorem ObjM.look {h : Heap} {x dx C : Addr} {mA : Str → Option Value} (I : ObjM h x dx C mA) : ∃ od, PySem.W.InstAt h x (PySem.W.instObj C dx) C (some od) ∧ ∀ name, PySem.W.lookIn name od = some (mA name) :=
  let ⟨od, ho, hl⟩ := lookIn_ns I.ns
  ⟨od, ⟨I.obj, rfl, rfl, ho⟩, hl⟩

section
variable {prog : Program} {w : World} {A : Around} {E : Value → Shared → Prop} {s : Shared} {K : PySem.W.Frag} {x dx C f : Addr} {mA : Str → Option Value} {name : Str} {v : Value}

theorem get_map {expr : Bool} {Q : Value → Shared → Prop} (X : K.In s.heap) (I : ObjM s.heap x dx C mA) (hg : PySem.W.plainGet K C name = true) (hh : PySem.W.hasDictIn K C = true)
    (ha : PySem.W.findIn K (.ref C) name = some none) (hv : mA name = some v) (hv' : PySem.W.handedIn v = true) (h : Q v { s with toks := s.toks + 1 }) :
    wpAny (model prog w) A (getAttr (.ref x) name expr) Q E s := by
  obtain ⟨od, J, hl⟩ := I.look
  exact PySem.W.get_value X J (PySem.W.plainGet_of hg).1 (PySem.W.findObj_own hh ha rfl (by rw [hl, hv])) hv' h


theorem get_meth {pl : Sem Bool} {Q : Value × List Value → Shared → Prop} (X : K.In s.heap) (I : ObjM s.heap x dx C mA) (hg : PySem.W.plainGet K C name = true)
    (hf : PySem.W.findIn K (.ref C) name = some (some (.ref f))) (ht : PySem.W.isFn K (.ref f) = true) (hv : mA name = none) (h : Q (.ref f, [.ref x]) s) :
    wpAny (model prog w) A (getMethod (.ref x) name pl) Q E s := by
  obtain ⟨od, J, hl⟩ := I.look
  exact PySem.W.method_fn X J (PySem.W.plainGet_of hg).1 (PySem.W.plainGet_of hg).2 hf (beq_iff_eq.mp ht) (by show (PySem.W.lookIn name od).map (·.isSome) = some false; rw [hl, hv]; rfl) h

theorem set_map {ns : List Str} {Q : Unit → Shared → Prop} (X : K.In s.heap) (I : ObjM s.heap x dx C mA)
    (hs : PySem.W.findIn K (.ref C) "__setattr__" = some (some (.builtin "object.__setattr__"))) (hp : PySem.W.plainOver K C = true) (ht : PySem.W.takerIn K C name = some none) (hh : PySem.W.hasDictIn K C = true)
    (hw : PySem.Within mA ns) (hsz : ns.length ≤ sizeLine)
    (h : ∀ h', ObjM h' x dx C (fun y => if y = name then some v else mA y) → Heap.SameBut dx s.heap h' → Q () { s with heap := h', toks := s.toks + 2 }) :
    wpAny (model prog w) A (setAttr (.ref x) name v) Q E s := by
  obtain ⟨od, J, hl⟩ := I.look
  refine PySem.W.set_plain X J hs (PySem.W.osa_open (s := { s with toks := s.toks + 1 }) (r := none) X J hp ht fun b => ?_)
  obtain ⟨cd, hc, hd'⟩ := PySem.W.any_some hh
  have hx : s.heap.get? x = some ⟨.ref C, some dx, .plain, #[]⟩ := I.obj
  refine wpAny_bind (wpAny_pure (wpAny_bind (wpAny_bind (wpAny_loadPart hx (wpAny_bind (PySem.W.Looks.here (s := { s with toks := s.toks + 1 }) (PySem.W.looks_clsIn X hc) ?_))))))
  rw [hd']
  refine wpAny_pure (a := some dx) (wpAny_bind (wpAny_pure (wpAny_bind ?_)))
  refine wpAny_nsSet1 (s := { s with toks := s.toks + 1 }) I.ns fun h' hn2 hs2 => ?_
  obtain ⟨oD, esD, epD, hoD, hdD, hcD⟩ := hn2.count (PySem.Within.cons name v hw)
  refine wpAny_bind (wpAny_lookBehind hoD (by rw [hdD]; exact pastItsLine_dict (Nat.le_trans hcD (by rw [List.length_cons]; omega))) ?_)
  exact wpAny_pure (h _ ⟨(hs2.2 _ (Ne.symm I.ne)).trans I.obj, hn2, I.ne⟩ hs2)

/-- C(..): the dict at the heap's end, the instance behind it; then its __init__ -/
theorem make_map {R : Result → Shared → Prop} {vs : List Value} {kw : List (Str × Value)} (X : K.In s.heap) (hm : PySem.W.makesIn K C = true)
    (hi : PySem.W.findIn K (.ref C) "__init__" = some (some (.ref f))) (hf : PySem.W.typeIn K (.ref f) = some (.type "function"))
    (h : codeAny (model prog w) (A.under (.builtin "type.__call__" ⟨.ref C :: vs, kw⟩)) (.call (.ref f) ⟨.ref (s.heap.objs.size + 1) :: vs, kw⟩) (PySem.W.InitBack (s.heap.objs.size + 1) R)
      { s with heap := (s.heap.push PySem.W.emptyDict).push (PySem.W.instObj C s.heap.objs.size) }) :
    codeAny (model prog w) A (.call (.ref C) ⟨vs, kw⟩) R s := by
  obtain ⟨hh, g, d, t, os⟩ := s
  exact PySem.W.make_core (PySem.W.makes_of X hm) (PySem.W.looks_findIn X hi) (fun self => PySem.W.bind_fn X self hf) (.inl rfl) h
end

/-! ### the attributes as a list of pairs -/
noncomputable def putF (f : Str) (v : V) : List (Str × V) → List (Str × V)
  | [] => [(f, v)]
  | (g, x) :: r => if g = f then (g, v) :: r else (g, x) :: putF f v r
theorem lookup_putF (f g : Str) (v : V) : ∀ fs : List (Str × V), (putF f v fs).lookup g = if g = f then some v else fs.lookup g
  | [] => by
    show List.lookup g [(f, v)] = _
    by_cases h : g = f
    · have hb : (g == f) = true := beq_iff_eq.mpr h
      simp only [List.lookup, hb, if_pos h]
    · have hb : (g == f) = false := beq_eq_false_iff_ne.mpr h
      simp only [List.lookup, hb, if_neg h]
  | (k, x) :: r => by
    have ih := lookup_putF f g v r
    rw [show putF f v ((k, x) :: r) = (if k = f then (k, v) :: r else (k, x) :: putF f v r) from rfl]
    by_cases hk : k = f
    · rw [if_pos hk]
      by_cases h : g = k
      · have hb : (g == k) = true := beq_iff_eq.mpr h
        simp only [List.lookup, hb, if_pos (h.trans hk)]
      · have hb : (g == k) = false := beq_eq_false_iff_ne.mpr h
        simp only [List.lookup, hb, if_neg (fun e : g = f => h (e.trans hk.symm))]
    · rw [if_neg hk]
      by_cases h : g = k
      · have hb : (g == k) = true := beq_iff_eq.mpr h
        simp only [List.lookup, hb, if_neg (fun e : g = f => hk (h.symm.trans e))]
      · have hb : (g == k) = false := beq_eq_false_iff_ne.mpr h
        simp only [List.lookup, hb]
        exact ih
theorem keys_putF (f : Str) (v : V) : ∀ fs : List (Str × V), f ∈ (putF f v fs).map (·.1) ∧ ∀ g, g ∈ fs.map (·.1) → g ∈ (putF f v fs).map (·.1)
  | [] => ⟨by simp [putF], fun g h => by simp at h⟩
  | (k, x) :: r => by
    obtain ⟨i1, i2⟩ := keys_putF f v r
    rw [show putF f v ((k, x) :: r) = (if k = f then (k, v) :: r else (k, x) :: putF f v r) from rfl]
    by_cases hk : k = f
    · rw [if_pos hk]
      subst hk
      exact ⟨by simp, fun g h => by simpa using h⟩
    · rw [if_neg hk]
      refine ⟨?_, fun g h => ?_⟩
      · rw [List.map_cons]
        exact List.mem_cons_of_mem _ i1
      · rw [List.map_cons] at h ⊢
        rcases List.mem_cons.mp h with e | e
        · exact List.mem_cons.mpr (.inl e)
        · exact List.mem_cons_of_mem _ (i2 g e)
theorem length_putF (f : Str) (v : V) : ∀ fs : List (Str × V), (putF f v fs).length ≤ fs.length + 1
  | [] => by simp [putF]
  | (k, x) :: r => by
    have ih := length_putF f v r
    rw [show putF f v ((k, x) :: r) = (if k = f then (k, v) :: r else (k, x) :: putF f v r) from rfl]
    by_cases hk : k = f
    · rw [if_pos hk, List.length_cons, List.length_cons]; omega
    · rw [if_neg hk, List.length_cons, List.length_cons]; omega

theorem RelO.some_of {v : V} {o : Option Value} (r : RelO (some v) o) : ∃ u, o = some u ∧ RelV v u := by
  cases o with
  | none => exact (show False from r).elim
  | some u => exact ⟨u, rfl, r⟩
theorem RelO.none_of {o : Option Value} (r : RelO none o) : o = none := by
  cases o with
  | none => rfl
  | some u => exact (show False from r).elim
theorem handed_of {v : V} {u : Value} (r : RelV v u) : PySem.W.handedIn u = true := by
  cases v with
  | non => cases (show u = Value.none from r); rfl
  | bl b => cases (show u = Value.bool b from r); rfl
  | int i => obtain ⟨t, e⟩ := (show ∃ t, u = Value.int i t from r); cases e; rfl
  | str x => obtain ⟨t, e⟩ := (show ∃ t, u = Value.str x t from r); cases e; rfl
  | byt b => obtain ⟨t, e⟩ := (show ∃ t, u = Value.bytes b t from r); cases e; rfl
  | flt b => obtain ⟨t, e⟩ := (show ∃ t, u = Value.float b t from r); cases e; rfl
  | ref a => cases (show u = Value.ref a from r); rfl
  | ty n => cases (show u = Value.type n from r); rfl

section
variable {P : Program} {w : World} {H H' : Hp} {h h' : Heap} {a C dx : Addr} {fs fs' : List (Str × V)}
theorem ins_get (hok : HOk P w H h) (e : H a = some (.ins C dx fs)) : ∃ mA, ObjM h a dx C mA ∧ (∀ f, RelO (fs.lookup f) (mA f)) ∧ PySem.Within mA (fs.map (·.1)) ∧ fs.length ≤ 1000 ∧ H dx = some (.own a) := by
  obtain ⟨d, z, ne, ob, mA, n, r, q⟩ := (show ObjOk P w H h a (.ins C dx fs) from hok a _ e)
  exact ⟨mA, ⟨ob, n, ne⟩, r, q, z, d⟩
end

/-! ### what of the text a class must have -/
structure Cls (K : PySem.W.Frag) (C : Addr) : Prop where
  pg : PySem.W.plainGet K C Str.empty = true
  hd : PySem.W.hasDictIn K C = true
  po : PySem.W.plainOver K C = true
  sa : PySem.W.findIn K (.ref C) "__setattr__" = some (some (.builtin "object.__setattr__"))
theorem Cls.get {K : PySem.W.Frag} {C : Addr} (c : Cls K C) (f : Str) : PySem.W.plainGet K C f = true := c.pg
/-- no class of it has the name -/
noncomputable def NoAttr (K : PySem.W.Frag) (C : Addr) (f : Str) : Prop := PySem.W.findIn K (.ref C) f = some none
theorem NoAttr.taker {K : PySem.W.Frag} {C : Addr} {f : Str} (n : NoAttr K C f) : PySem.W.takerIn K C f = some none := by
  unfold PySem.W.takerIn
  rw [show PySem.W.findIn K (.ref C) f = some none from n]
  rfl
/-- a method: a plain def of the class or of one above it -/
structure Meth (K : PySem.W.Frag) (C : Addr) (m : Str) (f : Addr) : Prop where
  at_ : PySem.W.findIn K (.ref C) m = some (some (.ref f))
  fn : PySem.W.isFn K (.ref f) = true
  kp : PySem.W.keepIn K (.ref f) = true

section
variable {X : Cx} {pins : List (Addr × Obj)} {σ : St} {H : Hp} {s : Shared} {a C dx : Addr} {fs : List (Str × V)} {f : Str} {v : V} {A : Around} {E : Value → Shared → Prop}

theorem getattr_ok {b : Bool} {Q : Value → Shared → Prop} (I : Inv X pins σ H s) (e : H a = some (.ins C dx fs)) (c : Cls X.K C) (n : NoAttr X.K C f) (l : fs.lookup f = some v)
    (h : ∀ u s', Inv X pins σ H s' → RelV v u → Q u s') : wpAny (model X.prog X.w) A (getAttr (.ref a) f b) Q E s := by
  obtain ⟨mA, O, r, _, _, _⟩ := ins_get I.hok e
  obtain ⟨u, hu, ru⟩ := RelO.some_of (v := v) (o := mA f) (by rw [← l]; exact r f)
  exact get_map I.kIn O (c.get f) c.hd n hu (handed_of ru) (h u _ (I.tok _) ru)


theorem getmeth_ok {m : Str} {g : Addr} {pl : Sem Bool} {Q : Value × List Value → Shared → Prop} (I : Inv X pins σ H s) (e : H a = some (.ins C dx fs)) (c : Cls X.K C) (k : Meth X.K C m g) (l : fs.lookup m = none)
    (h : Q (.ref g, [.ref a]) s) : wpAny (model X.prog X.w) A (getMethod (.ref a) m pl) Q E s := by
  obtain ⟨mA, O, r, _, _, _⟩ := ins_get I.hok e
  have hn : mA m = none := RelO.none_of (by rw [← l]; exact r m)
  exact get_meth I.kIn O (c.get m) k.at_ k.fn hn h

theorem setattr_ok {y : V} {u : Value} {Q : Unit → Shared → Prop} (I : Inv X pins σ H s) (e : H a = some (.ins C dx fs)) (c : Cls X.K C) (n : NoAttr X.K C f) (hl : fs.length < 1000) (ry : RelV y u)
    (h : ∀ s', Inv X pins σ (upd H a (.ins C dx (putF f y fs))) s' → Q () s') : wpAny (model X.prog X.w) A (setAttr (.ref a) f u) Q E s := by
  obtain ⟨mA, O, r, wi, _, ho⟩ := ins_get I.hok e
  have hz : (fs.map (·.1)).length ≤ sizeLine := by rw [List.length_map, sizeLine_eq]; omega
  refine set_map I.kIn O c.sa c.po n.taker c.hd wi hz fun h' O' sb => h _ ?_
  have hd : ∃ o, h'.get? dx = some o := let ⟨o, _, _, e', _⟩ := O'.ns; ⟨o, e'⟩
  refine I.write (x := a) (e := dx) (by rw [e]; exact True.intro) (.inr ho) (fun b q hb z => (sb.2 b hb).trans z) hd ?_
  refine ⟨by rw [upd_ne O.ne]; exact ho, ?_, O.ne, O'.obj, _, O'.ns, fun g => ?_, fun g hg => ?_⟩
  · have := length_putF f y fs; omega
  · show RelO ((putF f y fs).lookup g) (if g = f then some u else mA g)
    rw [lookup_putF]
    by_cases q : g = f
    · rw [if_pos q, if_pos q]; exact ry
    · rw [if_neg q, if_neg q]; exact r g
  · by_cases q : g = f
    · rw [q]; exact (keys_putF f y fs).1
    · refine (keys_putF f y fs).2 g (wi g fun z => hg ?_)
      show (if g = f then some u else mA g) = none
      rw [if_neg q]; exact z

/-- a new instance, tracked, without attributes -/
theorem Inv.made (I : Inv X pins σ H s) : Inv X pins σ (upd (upd H s.heap.objs.size (.own (s.heap.objs.size + 1))) (s.heap.objs.size + 1) (.ins C s.heap.objs.size []))
    { s with heap := (s.heap.push PySem.W.emptyDict).push (PySem.W.instObj C s.heap.objs.size) } := by
  have e1 : (s.heap.push PySem.W.emptyDict).get? s.heap.objs.size = some PySem.W.emptyDict := Heap.get?_push_size s.heap rfl
  have e2 : ((s.heap.push PySem.W.emptyDict).push (PySem.W.instObj C s.heap.objs.size)).get? (s.heap.objs.size + 1) = some (PySem.W.instObj C s.heap.objs.size) := by
    have := Heap.get?_push_size (s.heap.push PySem.W.emptyDict) (o := PySem.W.instObj C s.heap.objs.size) rfl
    rwa [Heap.size_push] at this
  have e3 : (s.heap.push PySem.W.emptyDict).Ns s.heap.objs.size (fun _ => none) := ⟨PySem.W.emptyDict, #[], _, e1, rfl, (fun e he => absurd he (by simp)), fun _ => rfl⟩
  have I1 := I.laid (a := s.heap.objs.size) (o := .own (s.heap.objs.size + 1)) (h' := s.heap.push PySem.W.emptyDict) (t' := s.toks) (fun b u q => Heap.get?_push_of_some _ q) (Nat.le_refl _) ⟨_, e1⟩
  refine I1.laid (a := s.heap.objs.size + 1) (o := .ins C s.heap.objs.size []) (t' := s.toks) (fun b u q => Heap.get?_push_of_some _ q) (Nat.le_of_eq (Heap.size_push _ _)) ?_
  have ne : s.heap.objs.size ≠ s.heap.objs.size + 1 := Nat.ne_of_lt (Nat.lt_succ_self _)
  refine ⟨by rw [upd_ne ne, upd_same], Nat.zero_le _, ne, e2, fun _ => none, (Heap.Ns1.of_empty e3).at fun o q => Heap.get?_push_of_some _ q, fun _ => True.intro, fun y hy => absurd rfl hy⟩

/-- e.f where nothing but the object is asked: through attributeBase (super) and the last hold -/
theorem attr_of {prog : Program} {w : World} {env : Env} {e : Expr} {f : Str} {pos : Pos} {s : Shared} {Q : Value → Shared → Prop} (hb : attributeBase e f env (eval e env) = eval e env)
    (h : wpAny (model prog w) A (eval e env) (fun o s₁ => wpAny (model prog w) A (getAttr o f true) Q E s₁) E s) : wpAny (model prog w) A (eval (.Attribute e f pos) env) Q E s :=
  Attribute_any_ h (by rw [arm_eval_Attribute, hb])
end

/-! ### readings and rules -/
/-- e.f, an attribute of the instance -/
noncomputable def tFld (K : PySem.W.Frag) (ta : TE) (f : Str) : TE := fun σ H Q => ta σ H fun x H1 => ∃ a C dx fs v, x = .ref a ∧ H1 a = some (.ins C dx fs) ∧ Cls K C ∧ NoAttr K C f ∧ fs.lookup f = some v ∧ Q v H1
/-- e.f = value -/
noncomputable def sFld (K : PySem.W.Frag) (ta tv : TE) (f : Str) : TS := fun D σ H => tv σ H fun y H1 => ta σ H1 fun x H2 => ∃ a C dx fs, x = .ref a ∧ H2 a = some (.ins C dx fs) ∧ Cls K C ∧ NoAttr K C f ∧ fs.length < 1000 ∧
  D.nx σ (upd H2 a (.ins C dx (putF f y fs)))
/-- an augmented operator on two values -/
noncomputable def InOp (X : Cx) (op : Operator) (rd : V → V → Hp → VK → Prop) : Prop :=
  ∀ (pins : List (Addr × Obj)) (s : Shared) (σ : St) (H : Hp) (x y : V) (u v : Value) (Q : VK), Inv X pins σ H s → RelV x u → RelV y v → rd x y H Q → wpAny (model X.prog X.w) X.A (inplaceOp op u v) (EP X pins σ Q) X.xe s
/-- e.f op= value -/
noncomputable def sFldAug (K : PySem.W.Frag) (ta tv : TE) (rd : V → V → Hp → VK → Prop) (f : Str) : TS := fun D σ H => ta σ H fun x H1 => ∃ a C dx fs v, x = .ref a ∧ H1 a = some (.ins C dx fs) ∧ Cls K C ∧ NoAttr K C f ∧ fs.lookup f = some v ∧
  tv σ H1 fun y H2 => rd v y H2 fun z H3 => ∃ dx' fs', H3 a = some (.ins C dx' fs') ∧ fs'.length < 1000 ∧ D.nx σ (upd H3 a (.ins C dx' (putF f z fs')))

section
variable {X : Cx} {o e value : Expr} {f : Str} {pos pos' tpos : Pos} {ta tv : TE}
theorem pe_fld (he : PE X e ta) (hb : attributeBase e f X.env (eval e X.env) = eval e X.env) : PE X (.Attribute e f pos) (tFld X.K ta f) := by
  intro pins s σ H Q I h
  refine attr_of hb (thn (he pins s σ H _ I h) fun u s1 ⟨x, H1, I1, rx, a, C, dx, fs, v, ex, ea, c, n, l, q⟩ => ?_)
  subst ex
  obtain rfl : u = Value.ref a := rx
  exact getattr_ok I1 ea c n l fun u' s2 I2 ru => ⟨v, H1, I2, ru, q⟩
theorem ps_fld (ha : PE X o ta) (hv : PE X value tv) (hs : swapsWith value (some (.Attribute o f pos')) pos.line X.env = pure false) : PS X (.Assign [.Attribute o f pos'] value pos) (sFld X.K ta tv f) := by
  intro pins s σ H D I h
  refine plainObj_wpAny_Assign_Attribute (thn (hv pins s σ H _ I h) fun u s1 ⟨y, H1, I1, ry, q⟩ => thn (ha pins s1 σ H1 _ I1 q) fun ov s2 ⟨x, H2, I2, rx, a, C, dx, fs, ex, ea, c, n, l, q2⟩ => ?_) hs
  subst ex
  obtain rfl : ov = Value.ref a := rx
  exact setattr_ok I2 ea c n l ry fun s3 I3 => ⟨σ, _, I3, q2⟩
theorem ps_fldaug {op : Operator} {rd : V → V → Hp → VK → Prop} (ha : PE X o ta) (hv : PE X value tv) (hop : InOp X op rd) : PS X (.AugAssign (.Attribute o f tpos) op value pos) (sFldAug X.K ta tv rd f) := by
  intro pins s σ H D I h
  refine wpAny_AugAssign_AttributeAny (thn (ha pins s σ H _ I h) fun ov s1 ⟨x, H1, I1, rx, a, C, dx, fs, v, ex, ea, c, n, l, q⟩ => ?_)
  subst ex
  obtain rfl : ov = Value.ref a := rx
  refine getattr_ok I1 ea c n l fun u s2 I2 ru => thn (hv pins s2 σ H1 _ I2 q) fun w3 s3 ⟨y, H2, I3, ry, q3⟩ => thn (hop pins s3 σ H2 v y u w3 _ I3 ru ry q3) fun w4 s4 ⟨z, H3, I4, rz, dx', fs', ea', l', q4⟩ => ?_
  exact setattr_ok I4 ea' c n l' rz fun s5 I5 => ⟨σ, _, I5, q4⟩
noncomputable def rAdd : V → V → Hp → VK → Prop := fun x y H Q => ∃ i j, x = .int i ∧ y = .int j ∧ Q (.int (i + j)) H
noncomputable def rSub : V → V → Hp → VK → Prop := fun x y H Q => ∃ i j, x = .int i ∧ y = .int j ∧ Q (.int (i - j)) H
theorem in_add : InOp X .Add rAdd := by
  rintro pins s σ H x y u v Q I rx ry ⟨i, j, rfl, rfl, q⟩
  obtain ⟨t, rfl⟩ := (show ∃ t, u = Value.int i t from rx)
  obtain ⟨t', rfl⟩ := (show ∃ t', v = Value.int j t' from ry)
  exact PyProof.Rows.iadd_int ⟨.int (i + j), H, I.tok _, ⟨_, rfl⟩, q⟩
theorem in_sub : InOp X .Sub rSub := by
  rintro pins s σ H x y u v Q I rx ry ⟨i, j, rfl, rfl, q⟩
  obtain ⟨t, rfl⟩ := (show ∃ t, u = Value.int i t from rx)
  obtain ⟨t', rfl⟩ := (show ∃ t', v = Value.int j t' from ry)
  exact PyProof.Rows.isub_int ⟨.int (i - j), H, I.tok _, ⟨_, rfl⟩, q⟩

/-- what is between an instance and its method: the tree of a method call -/
theorem methcall_of {pl : Sem Bool} {m : Str} {apos : Pos} {args : List Expr} {pins : List (Addr × Obj)} {s : Shared} {σ : St} {H : Hp} {Q : Value → Shared → Prop} {te : TE} (he : PE X e te) (I : Inv X pins σ H s)
    (h : te σ H fun x H1 => ∃ a C dx fs g, x = .ref a ∧ H1 a = some (.ins C dx fs) ∧ Cls X.K C ∧ Meth X.K C m g ∧ fs.lookup m = none ∧
      ∀ s1, Inv X pins σ H1 s1 → wpAny (model X.prog X.w) X.A (callWith pos (.ref g) [.ref a] (backTo pos (starEach args X.env)) (backToKw pos (keywordEach [] X.env))) Q X.xe s1)
    (ht : eval (.Call (.Attribute e m apos) args [] pos) X.env = (do
      let ov ← eval e X.env
      standAt apos.atName
      let (f, first) ← holding [ov] (getMethod ov m pl)
      callWith pos f first (backTo pos (starEach args X.env)) (backToKw pos (keywordEach [] X.env)))) :
    wpAny (model X.prog X.w) X.A (eval (.Call (.Attribute e m apos) args [] pos) X.env) Q X.xe s := by
  refine PySem.W.methodCall_KW (pl := pl) (thn (he pins s σ H _ I h) fun u s1 ⟨x, H1, I1, rx, a, C, dx, fs, g, ex, ea, c, k, l, q⟩ => ?_) ht
  subst ex
  obtain rfl : u = Value.ref a := rx
  exact getmeth_ok I1 ea c k l (q s1 I1)
end

/-! ### isinstance -/
section
variable {X : Cx} {pins : List (Addr × Obj)} {σ : St} {H : Hp} {s : Shared} {A : Around} {E : Value → Shared → Prop} {Q : Value → Shared → Prop} {c : Value} {b : Bool}
end
end L2

namespace L2
open PySem PySem.Spec PyProof.Rows

/-! ### room -/
structure Room (k : Nat) (A : Around) : Prop where
  hd : A.handled = none
  dp : A.depth + 3 * k + 5 < recursionLimit
  un : A.units + 16 * k + 200 < cLine
theorem Room.mono {j k : Nat} {A : Around} (r : Room k A) (h : j ≤ k) : Room j A := ⟨r.hd, by have := r.dp; omega, by have := r.un; omega⟩
theorem Room.deeper {k : Nat} {A : Around} (r : Room (k + 1) A) (env : Env) : Room k (A.deeper env) :=
  ⟨r.hd, by have := r.dp; show A.depth + 1 + 3 * k + 5 < _; omega, by have := r.un; show A.units + 3 + 16 * k + 200 < _; omega⟩
theorem make_depth {A : Around} {C : Addr} {us : List Value} {kw : List (Str × Value)} : (A.under (.builtin "type.__call__" ⟨.ref C :: us, kw⟩)).depth = A.depth + 1 := by
  first | rfl | simp [Around.under, Code.weight, Code.isCreation, Code.isGuard, Code.isCaller, Code.frames, Code.isFrame, guardIds]
theorem make_units {A : Around} {C : Addr} {us : List Value} {kw : List (Str × Value)} : (A.under (.builtin "type.__call__" ⟨.ref C :: us, kw⟩)).units = A.units + 1 := by
  first | rfl | simp [Around.under, Code.cUnits, Code.frames, Code.isFrame]
theorem Room.make {k : Nat} {A : Around} (r : Room (k + 1) A) (C : Addr) (us : List Value) (kw : List (Str × Value)) : Room k (A.under (.builtin "type.__call__" ⟨.ref C :: us, kw⟩)) :=
  ⟨r.hd, by have := r.dp; rw [make_depth]; omega, by have := r.un; rw [make_units]; omega⟩
theorem Room.depth {k : Nat} {A : Around} (r : Room k A) : A.depth < recursionLimit := by have := r.dp; omega
theorem Room.units {k : Nat} {A : Around} (r : Room k A) : A.units + 64 < cLine := by have := r.un; omega

/-! ### argument lists and displays -/
noncomputable def tNil : TA := fun _ H Q => Q [] H
noncomputable def tCons (ta : TE) (tr : TA) : TA := fun σ H Q => ta σ H fun x H1 => tr σ H1 fun xs H2 => Q (x :: xs) H2
section
variable {X : Cx} {e : Expr} {es : List Expr} {te : TE} {t : TA} {pos : Pos}
theorem pa_nil : PA X [] tNil := fun _ _ _ _ H Q I h => Calls.spliced_nil ⟨[], H, I, .nil, h⟩
theorem pa_cons (ha : PE X e te) (hr : PA X es t) (hs : starEach (e :: es) X.env = (false, eval e X.env) :: starEach es X.env := by rfl) : PA X (e :: es) (tCons te t) := by
  intro pos pins s σ H Q I h
  rw [hs]
  show wpAny _ _ (spliced ((false, eval e X.env) :: backTo pos (starEach es X.env))) _ _ s
  refine Calls.spliced_cons (thn (ha pins s σ H _ I h) fun u s1 ⟨x, H1, I1, r1, q1⟩ => ?_)
  exact thn (hr pos pins s1 σ H1 _ I1 q1) fun us s2 ⟨xs, H2, I2, r2, q2⟩ => ⟨x :: xs, H2, I2, .cons r1 r2, q2⟩

/-- a tuple, a list of written items -/
noncomputable def tTup (t : TA) : TE := fun σ H Q => t σ H fun xs H1 => xs.length ≤ sizeLine ∧ ∀ p, H1 p = none → Q (.ref p) (upd H1 p (.tup xs))
noncomputable def tLst (t : TA) : TE := fun σ H Q => t σ H fun xs H1 => xs.length ≤ sizeLine ∧ ∀ p, H1 p = none → Q (.ref p) (upd H1 p (.lst xs))
theorem pe_tup {x1} (h : PA X es t) : PE X (.Tuple es x1 pos) (tTup t) := by
  intro pins s σ H Q I hq
  refine wpAny_Tuple_spliced (thn (h pos pins s σ H _ I hq) fun us s1 ⟨xs, H1, I1, r, z, q⟩ => ⟨by rw [← r.length]; exact z, ?_⟩)
  have hf : H1 s1.heap.objs.size = none := I1.hok.fresh (Nat.le_refl _)
  refine ⟨.ref s1.heap.objs.size, upd H1 s1.heap.objs.size (.tup xs), I1.laid (t' := s1.toks) (fun b u e => Heap.get?_push_of_some _ e) (Nat.le_refl _) ?_, rfl, q _ hf⟩
  exact ⟨z, us, r, ⟨_, Heap.get?_push_size _ rfl, rfl, _, rfl⟩⟩
theorem pe_lst (h : PA X es t) : PE X (.List es pos) (tLst t) := by
  intro pins s σ H Q I hq
  refine wpAny_List_spliced (thn (h pos pins s σ H _ I hq) fun us s1 ⟨xs, H1, I1, r, z, q⟩ => ⟨by rw [← r.length]; exact z, ?_⟩)
  have hf : H1 s1.heap.objs.size = none := I1.hok.fresh (Nat.le_refl _)
  refine ⟨.ref s1.heap.objs.size, upd H1 s1.heap.objs.size (.lst xs), I1.laid (t' := s1.toks) (fun b u e => Heap.get?_push_of_some _ e) (Nat.le_refl _) ?_, rfl, q _ hf⟩
  exact ⟨z, us, 0, r, Heap.get?_push_size _ rfl⟩
end

/-! ### what a def promises -/
/-- a def's promise: the bound arguments in the parameters' order, the heap, the wanted end, the wanted exception -/
noncomputable abbrev Sp := List V → Hp → VK → XK → Prop
/-- how an exception lies behind a call (file 08 gives it): the callers' frames, abstract heap and state ahead of the call, the wish, the exception, the state -/
noncomputable abbrev CXT := List Env → Hp → Shared → XK → Value → Shared → Prop

/-- the state at a call -/
structure Env0 (P : Program) (w : World) (K : PySem.W.Frag) (mg : Str → Option Value) (base : Heap) (A : Around) (outer : List Env) (s : Shared) (H : Hp) : Prop where
  frames : A.frames = some outer
  mod : Mod K mg base
  bs : ∀ b o, base.get? b = some o → s.heap.get? b = some o ∧ H b = none
  bsz : base.objs.size ≤ s.heap.objs.size
  funs : s.heap.FunFrames base outer
  frf : ∀ b ∈ frs outer, H b = none
  hok : HOk P w H s.heap
  bare : AllBare s.gens
/-- a call's end -/
noncomputable def CE (outer : List Env) (P : Program) (w : World) (H : Hp) (s : Shared) (Q : VK) (u : Value) (s' : Shared) : Prop :=
  ∃ v H', s'.os = s.os ∧ AllBare s'.gens ∧ Un (frs outer) [] H H' s.heap s'.heap ∧ HOk P w H' s'.heap ∧ RelV v u ∧ Q v H'
noncomputable def CR (CX : CXT) (outer : List Env) (P : Program) (w : World) (H : Hp) (s : Shared) (Q : VK) (E : XK) (r : Result) (s' : Shared) : Prop :=
  match r with
  | .ok (.ret u) => CE outer P w H s Q u s'
  | .ok _ => False
  | .error e => CX outer H s E e s'
structure FnOk (P : Program) (w : World) (K : PySem.W.Frag) (mg : Str → Option Value) (base : Heap) (CX : CXT) (k : Nat) (f : Addr) (fd : FuncData) (ps : List Str) (sp : Sp) : Prop where
  len : ∀ vs H Q E, sp vs H Q E → vs.length = ps.length
  run : ∀ (A : Around) (outer : List Env) (s : Shared) (H : Hp) (args : Args) (us : List Value) (vs : List V) (Q : VK) (E : XK), Room k A → Env0 P w K mg base A outer s H → BindsTo s fd args (ps.zip us) → Vals vs us → sp vs H Q E →
    codeAny (model P w) A (.call (.ref f) args) (CR CX outer P w H s Q E) s
/-- a weaker promise -/
theorem FnOk.imp {P : Program} {w : World} {K : PySem.W.Frag} {mg : Str → Option Value} {base : Heap} {CX : CXT} {k : Nat} {f : Addr} {fd : FuncData} {ps : List Str} {sp sp' : Sp} (F : FnOk P w K mg base CX k f fd ps sp)
    (h : ∀ vs H Q E, sp' vs H Q E → sp vs H Q E) : FnOk P w K mg base CX k f fd ps sp' :=
  ⟨fun vs H Q E q => F.len vs H Q E (h _ _ _ _ q), fun A outer s H args us vs Q E hr he hb hv hs => F.run A outer s H args us vs Q E hr he hb hv (h _ _ _ _ hs)⟩

theorem Env0.make {P : Program} {w : World} {K : PySem.W.Frag} {mg : Str → Option Value} {base : Heap} {A : Around} {outer : List Env} {s : Shared} {H : Hp} (e : Env0 P w K mg base A outer s H) (C : Addr) (us : List Value) (kw : List (Str × Value)) :
    Env0 P w K mg base (A.under (.builtin "type.__call__" ⟨.ref C :: us, kw⟩)) outer s H := ⟨by first | exact e.frames | (simpa [Around.under, Code.envs, Code.isFrame, pushEnvs] using e.frames), e.mod, e.bs, e.bsz, e.funs, e.frf, e.hok, e.bare⟩

section
variable {X : Cx} {pins : List (Addr × Obj)} {σ : St} {H : Hp} {s s' : Shared}
/-- from a body: what a callee wants -/
theorem Inv.env0 (I : Inv X pins σ H s) : Env0 X.prog X.w X.K X.mg X.base X.A X.stack s H :=
  ⟨I.ok.frames, I.ok.mod, I.bs, Nat.le_trans I.ok.bsz I.sz, I.stack, I.stkFree, I.hok, I.bare⟩
/-- behind a call -/
theorem Inv.after {Q : VK} {u : Value} (I : Inv X pins σ H s) (h : CE X.stack X.prog X.w H s Q u s') : EP X pins σ Q u s' := by
  obtain ⟨v, H', os, bare, un, hok, r, q⟩ := h
  obtain ⟨hh, g, d, t, os'⟩ := s'
  obtain rfl : os' = s.os := os
  exact ⟨v, H', I.call (h' := hh) (g' := g) (d' := d) (t' := t) (ch := []) un hok bare (fun b z => absurd z (by simp)), r, q⟩
end

/-! ### calls -/
/-- f(..): the written arguments, then the defaults dvs; E: what is wanted of an exception -/
noncomputable def tCall (sp : Sp) (dvs : List V) (E : XK) (t : TA) : TE := fun σ H Q => t σ H fun vs H1 => sp (vs ++ dvs) H1 Q E
/-- o.m(..) of an instance of the class at C -/
noncomputable def tMeth (C : Addr) (m : Str) (sp : Sp) (dvs : List V) (E : XK) (ta : TE) (t : TA) : TE := fun σ H Q => ta σ H fun x H1 => ∃ a dx fs, x = .ref a ∧ H1 a = some (.ins C dx fs) ∧ fs.lookup m = none ∧
  t σ H1 fun vs H2 => sp (x :: (vs ++ dvs)) H2 Q E
/-- C(..): a new instance and its dict, then __init__ -/
noncomputable def tMake (C : Addr) (sp : Sp) (dvs : List V) (E : XK) (t : TA) : TE := fun σ H Q => t σ H fun vs H1 => ∀ x dx, H1 x = none → H1 dx = none → dx ≠ x →
  sp (.ref x :: (vs ++ dvs)) (upd (upd H1 dx (.own x)) x (.ins C dx [])) (fun v H2 => v = .non ∧ Q (.ref x) H2) E

/-- how the parameters are bound: us the positional arguments, kw the keywords' values by name, ds the defaults that fill up -/
noncomputable def Binds (K : PySem.W.Frag) (fd : FuncData) (ps : List Str) (ds : List Value) : Prop :=
  ∀ (s : Shared) (us : List Value), K.In s.heap → (us ++ ds).length = ps.length → BindsTo s fd ⟨us, []⟩ (ps.zip (us ++ ds))
/-- every parameter is given -/
theorem Binds.all {K : PySem.W.Frag} {fd : FuncData} {ps : List Str} (h : ∀ us : List Value, us.length = ps.length → bindArgs fd ⟨us, []⟩ = pure (ps.zip us)) : Binds K fd ps [] := fun s us _ hl => by
  rw [List.append_nil] at hl ⊢
  exact .of_eq (h us hl)

/-- an exception of a callee reaches what this body wants of exceptions -/
noncomputable def Passes (CX : CXT) (X : Cx) (E : XK) : Prop := ∀ (pins : List (Addr × Obj)) (σ : St) (H : Hp) (s : Shared) (e : Value) (s' : Shared), Inv X pins σ H s → CX X.stack H s E e s' → X.xe e s'

section
variable {X : Cx} {CX : CXT} {k : Nat} {f C : Addr} {fd : FuncData} {ps : List Str} {sp : Sp} {dvs : List V} {ds : List Value} {E : XK} {x m : Str} {p pos apos : Pos} {e o : Expr} {es : List Expr} {ta : TE} {t : TA}

/-- the callee runs -/
theorem run_fn {pins : List (Addr × Obj)} {σ : St} {H : Hp} {s : Shared} {Q : VK} {us : List Value} {vs : List V} (F : FnOk X.prog X.w X.K X.mg X.base CX k f fd ps sp) (hr : Room k X.A) (hb : Binds X.K fd ps ds) (hd : Vals dvs ds) (hx : Passes CX X E)
    (I : Inv X pins σ H s) (r : Vals vs us) (h : sp (vs ++ dvs) H Q E) : wpAny (model X.prog X.w) X.A (call (.ref f) us) (EP X pins σ Q) X.xe s := by
  have r2 : Vals (vs ++ dvs) (us ++ ds) := r.append hd
  have hl : (us ++ ds).length = ps.length := by rw [← r2.length]; exact F.len _ _ _ _ h
  refine wpAny_call (codeAny_mono (F.run X.A X.stack s H ⟨us, []⟩ (us ++ ds) (vs ++ dvs) Q E hr I.env0 (hb s us I.kIn hl) r2 h) fun r s' hq => ?_)
  cases r with
  | error e => exact hx pins σ H s e s' I hq
  | ok fl =>
    cases fl with
    | ret u => exact I.after hq
    | next => exact False.elim hq
    | brk => exact False.elim hq
    | cont => exact False.elim hq

theorem pe_call (F : FnOk X.prog X.w X.K X.mg X.base CX k f fd ps sp) (hr : Room k X.A) (hg : Gl X x) (hm : X.mg x = some (.ref f)) (hk : PySem.W.keepIn X.K (.ref f) = true) (hb : Binds X.K fd ps ds) (hd : Vals dvs ds) (hx : Passes CX X E)
    (ha : PA X (e :: es) t) (hdb : (x == ("__debug__" : Str)) = false := by decide) (he : starEach (e :: es) X.env = (false, eval e X.env) :: starEach es X.env := by rfl) (hpl : (backTo pos (starEach es X.env)).any (·.1) = false := by rfl) :
    PE X (.Call (.Name x p) (e :: es) [] pos) (tCall sp dvs E t) := by
  intro pins s σ H Q I h
  refine wpAny_Call_Name_kw (ld_glob I hg hm ?_ hdb)
  refine PySem.W.callWith_K (h₀ := X.base) I.ok.mod.kin hk (thn (ha pos pins s σ H _ I h) fun us s1 ⟨vs, H1, I1, r, q⟩ => ⟨I1.kIn, ?_⟩) he hpl
  exact run_fn F hr hb hd hx I1 r q

/-- o.m(e, ..) -/
theorem pe_meth {pl : Sem Bool} (he : PE X o ta) (c : Cls X.K C) (hm : Meth X.K C m f) (F : FnOk X.prog X.w X.K X.mg X.base CX k f fd ps sp) (hr : Room k X.A) (hb : Binds X.K fd ps ds) (hd : Vals dvs ds) (hx : Passes CX X E) (ha : PA X (e :: es) t)
    (hst : starEach (e :: es) X.env = (false, eval e X.env) :: starEach es X.env := by rfl) (hpl : (backTo pos (starEach es X.env)).any (·.1) = false := by rfl)
    (ht : eval (.Call (.Attribute o m apos) (e :: es) [] pos) X.env = (do
      let ov ← eval o X.env
      standAt apos.atName
      let (f, first) ← holding [ov] (getMethod ov m pl)
      callWith pos f first (backTo pos (starEach (e :: es) X.env)) (backToKw pos (keywordEach [] X.env))) := by rfl) :
    PE X (.Call (.Attribute o m apos) (e :: es) [] pos) (tMeth C m sp dvs E ta t) := by
  intro pins s σ H Q I h
  refine PySem.W.methodCall_KW (pl := pl) (thn (he pins s σ H _ I h) fun u s1 ⟨x, H1, I1, rx, a, dx, fs, ex, ea, l, q⟩ => ?_) ht
  subst ex
  obtain rfl : u = Value.ref a := rx
  refine getmeth_ok I1 ea c hm l ?_
  refine PySem.W.callWith_K (first := [.ref a]) (h₀ := X.base) I.ok.mod.kin hm.kp (thn (ha pos pins s1 σ H1 _ I1 q) fun us s2 ⟨vs, H2, I2, r, q2⟩ => ⟨I2.kIn, ?_⟩) hst hpl
  exact run_fn (us := .ref a :: us) (vs := .ref a :: vs) F hr hb hd hx I2 (.cons rfl r) q2
/-- o.m() -/
theorem pe_meth0 {pl : Sem Bool} (he : PE X o ta) (c : Cls X.K C) (hm : Meth X.K C m f) (F : FnOk X.prog X.w X.K X.mg X.base CX k f fd ps sp) (hr : Room k X.A) (hb : Binds X.K fd ps ds) (hd : Vals dvs ds) (hx : Passes CX X E)
    (ht : eval (.Call (.Attribute o m apos) [] [] pos) X.env = (do
      let ov ← eval o X.env
      standAt apos.atName
      let (f, first) ← holding [ov] (getMethod ov m pl)
      callWith pos f first (backTo pos (starEach [] X.env)) (backToKw pos (keywordEach [] X.env))) := by rfl) :
    PE X (.Call (.Attribute o m apos) [] [] pos) (tMeth C m sp dvs E ta tNil) := by
  intro pins s σ H Q I h
  refine PySem.W.methodCall_KW (pl := pl) (thn (he pins s σ H _ I h) fun u s1 ⟨x, H1, I1, rx, a, dx, fs, ex, ea, l, q⟩ => ?_) ht
  subst ex
  obtain rfl : u = Value.ref a := rx
  refine getmeth_ok I1 ea c hm l ?_
  exact PySem.W.callWith_K0 (first := [.ref a]) I1.kIn hm.kp (run_fn (us := [.ref a]) (vs := [.ref a]) F hr hb hd hx I1 (.cons rfl .nil) q)

/-- what a class must have to be made -/
structure Mk (K : PySem.W.Frag) (C f : Addr) : Prop where
  makes : PySem.W.makesIn K C = true
  init : PySem.W.findIn K (.ref C) "__init__" = some (some (.ref f))
  fn : PySem.W.isFn K (.ref f) = true
  kp : PySem.W.keepIn K (.ref C) = true

theorem run_make {pins : List (Addr × Obj)} {σ : St} {H : Hp} {s : Shared} {Q : VK} {us : List Value} {vs : List V} (M : Mk X.K C f) (F : FnOk X.prog X.w X.K X.mg X.base CX k f fd ps sp) (hr : Room (k + 1) X.A) (hb : Binds X.K fd ps ds) (hd : Vals dvs ds)
    (hx : Passes CX X E) (I : Inv X pins σ H s) (r : Vals vs us)
    (h : ∀ x dx, H x = none → H dx = none → dx ≠ x → sp (.ref x :: (vs ++ dvs)) (upd (upd H dx (.own x)) x (.ins C dx [])) (fun v H2 => v = .non ∧ Q (.ref x) H2) E) :
    wpAny (model X.prog X.w) X.A (call (.ref C) us) (EP X pins σ Q) X.xe s := by
  have hq := h (s.heap.objs.size + 1) s.heap.objs.size (I.hok.fresh (Nat.le_succ _)) (I.hok.fresh (Nat.le_refl _)) (Nat.ne_of_lt (Nat.lt_succ_self _))
  have I2 := Inv.made (C := C) I
  have r2 : Vals (V.ref (s.heap.objs.size + 1) :: (vs ++ dvs)) (Value.ref (s.heap.objs.size + 1) :: (us ++ ds)) := .cons rfl (r.append hd)
  have hl : (Value.ref (s.heap.objs.size + 1) :: us ++ ds).length = ps.length := by
    have e := r2.length
    rw [F.len _ _ _ _ hq] at e
    exact e.symm
  refine wpAny_call (make_map (f := f) I.kIn M.makes M.init (beq_iff_eq.mp M.fn) (codeAny_mono (F.run _ X.stack _ _ ⟨Value.ref (s.heap.objs.size + 1) :: us, []⟩ (Value.ref (s.heap.objs.size + 1) :: (us ++ ds)) _ _ E (hr.make C us [])
    (I2.env0.make C us []) (hb _ (Value.ref (s.heap.objs.size + 1) :: us) I2.kIn hl) r2 hq) fun r s' hq' => ?_))
  cases r with
  | error e => exact hx pins σ _ _ e s' I2 hq'
  | ok fl =>
    cases fl with
    | ret u =>
      obtain ⟨v, H', I3, rv, ev, q3⟩ := I2.after hq'
      subst ev
      exact ⟨rv, ⟨V.ref (s.heap.objs.size + 1), H', I3, rfl, q3⟩⟩
    | next => exact False.elim hq'
    | brk => exact False.elim hq'
    | cont => exact False.elim hq'
theorem pe_make (M : Mk X.K C f) (F : FnOk X.prog X.w X.K X.mg X.base CX k f fd ps sp) (hr : Room (k + 1) X.A) (hg : Gl X x) (hm : X.mg x = some (.ref C)) (hb : Binds X.K fd ps ds) (hd : Vals dvs ds) (hx : Passes CX X E)
    (ha : PA X (e :: es) t) (hdb : (x == ("__debug__" : Str)) = false := by decide) (he : starEach (e :: es) X.env = (false, eval e X.env) :: starEach es X.env := by rfl) (hpl : (backTo pos (starEach es X.env)).any (·.1) = false := by rfl) :
    PE X (.Call (.Name x p) (e :: es) [] pos) (tMake C sp dvs E t) := by
  intro pins s σ H Q I h
  refine wpAny_Call_Name_kw (ld_glob I hg hm ?_ hdb)
  refine PySem.W.callWith_K (h₀ := X.base) I.ok.mod.kin M.kp (thn (ha pos pins s σ H _ I h) fun us s1 ⟨vs, H1, I1, r, q⟩ => ⟨I1.kIn, ?_⟩) he hpl
  exact run_make M F hr hb hd hx I1 r q
theorem pe_make0 (M : Mk X.K C f) (F : FnOk X.prog X.w X.K X.mg X.base CX k f fd ps sp) (hr : Room (k + 1) X.A) (hg : Gl X x) (hm : X.mg x = some (.ref C)) (hb : Binds X.K fd ps ds) (hd : Vals dvs ds) (hx : Passes CX X E)
    (hdb : (x == ("__debug__" : Str)) = false := by decide) : PE X (.Call (.Name x p) [] [] pos) (tMake C sp dvs E tNil) := by
  intro pins s σ H Q I h
  refine wpAny_Call_Name_kw (ld_glob I hg hm ?_ hdb)
  exact PySem.W.callWith_K0 I.kIn M.kp (run_make (us := []) M F hr hb hd hx I .nil h)
end

/-! ### keywords -/
section
variable {X : Cx} {CX : CXT} {k : Nat} {f C : Addr} {fd : FuncData} {ps ks : List Str} {sp : Sp} {E : XK} {x m : Str} {p pos apos kpos : Pos} {e o : Expr} {es : List Expr} {kws : List Keyword} {te ta : TE} {t tk : TA} {nm : Option Str}

variable {g : List Value → List Value → List Value} {gV : List V → List V → List V}
end

/-! ### a def's body keeps its promise -/
/-- names: the parameters first -/
structure FnScope (N P : List Str) (sc : Scope) : Prop where
  kind : sc.kind = .function
  co : sc.isCoroutine = false
  gen : sc.isGenerator = false
  nd : N.Nodup
  pre : N.take P.length = P
  par : ∀ x ∈ P, sc.names.lookup x = some .local ∨ sc.names.lookup x = some .cell
  nofree : ∀ y ∈ sc.names, y.2 ≠ .free

theorem bindL_out {kindOf : Str → Option NameKind} {x : Str} : ∀ {binds : List (Str × Value)} {m : Str → Option Value}, (∀ v, (x, v) ∉ binds) → bindL kindOf binds m x = m x
  | [], _, _ => rfl
  | (n, v) :: r, m, h => by
    unfold bindL
    rw [bindL_out fun w hw => h w (List.mem_cons_of_mem _ hw)]
    split
    · have : x ≠ n := by rintro rfl; exact h v List.mem_cons_self
      simp [this]
    · rfl
theorem bindC_out {kindOf : Str → Option NameKind} {x : Str} : ∀ {binds : List (Str × Value)} {m : Str → Option Value}, (∀ v, (x, v) ∉ binds) → bindC kindOf binds m x = m x
  | [], _, _ => rfl
  | (n, v) :: r, m, h => by
    unfold bindC
    rw [bindC_out fun w hw => h w (List.mem_cons_of_mem _ hw)]
    split
    · rfl
    · have : x ≠ n := by rintro rfl; exact h v List.mem_cons_self
      simp [this]
theorem bindL_get {kindOf : Str → Option NameKind} {x : Str} {v : Value} : ∀ {P : List Str} {vs : List Value} {i : Nat} {m : Str → Option Value}, P.Nodup → P[i]? = some x → vs[i]? = some v → kindOf x = some .local →
    bindL kindOf (P.zip vs) m x = some v
  | [], _, _, _, _, h, _, _ => by simp at h
  | _ :: _, [], _, _, _, _, h, _ => by simp at h
  | p :: P, w :: vs, 0, m, nd, h1, h2, hk => by
    simp at h1 h2; subst h1; subst h2
    show bindL kindOf ((p, w) :: P.zip vs) m p = _
    unfold bindL
    rw [bindL_out fun v hv => (List.nodup_cons.mp nd).1 (List.of_mem_zip hv).1, if_pos hk]
    simp
  | p :: P, w :: vs, i + 1, m, nd, h1, h2, hk => by
    show bindL kindOf ((p, w) :: P.zip vs) m x = _
    unfold bindL
    exact bindL_get (i := i) (List.nodup_cons.mp nd).2 (by simpa using h1) (by simpa using h2) hk
theorem bindC_get {kindOf : Str → Option NameKind} {x : Str} {v : Value} : ∀ {P : List Str} {vs : List Value} {i : Nat} {m : Str → Option Value}, P.Nodup → P[i]? = some x → vs[i]? = some v → kindOf x ≠ some .local →
    bindC kindOf (P.zip vs) m x = some v
  | [], _, _, _, _, h, _, _ => by simp at h
  | _ :: _, [], _, _, _, _, h, _ => by simp at h
  | p :: P, w :: vs, 0, m, nd, h1, h2, hk => by
    simp at h1 h2; subst h1; subst h2
    show bindC kindOf ((p, w) :: P.zip vs) m p = _
    unfold bindC
    rw [bindC_out fun v hv => (List.nodup_cons.mp nd).1 (List.of_mem_zip hv).1, if_neg hk]
    simp
  | p :: P, w :: vs, i + 1, m, nd, h1, h2, hk => by
    show bindC kindOf ((p, w) :: P.zip vs) m x = _
    unfold bindC
    exact bindC_get (i := i) (List.nodup_cons.mp nd).2 (by simpa using h1) (by simpa using h2) hk

/-- the names' values at the entry -/
noncomputable def start (N : List Str) (vs : List V) : St := vs.map some ++ List.replicate (N.length - vs.length) none

/-- the context of a def's body, at its entry; an exception leaves the frame, then lies as CX says -/
noncomputable def cxOf (CX : CXT) (P : Program) (w : World) (K : PySem.W.Frag) (mg : Str → Option Value) (base : Heap) (N : List Str) (qual : Str) (scope : Scope) (f : Addr) (cd : Value) (A : Around) (outer : List Env) (s : Shared) (H : Hp) (E : XK) : Cx where
  prog := P
  w := w
  K := K
  mg := mg
  base := base
  A := A.deeper (envOfC qual scope s.heap.objs.size f cd)
  N := N
  s₀ := s
  H₀ := H
  env := envOfC qual scope s.heap.objs.size f cd
  outer := outer
  stack := envOfC qual scope s.heap.objs.size f cd :: outer
  ex := []
  calm := true
  fn := fun _ => true
  pn := []
  xe := fun e s' => wpAny (model P w) (A.deeper (envOfC qual scope s.heap.objs.size f cd)) (leaving (envOfC qual scope s.heap.objs.size f cd) e) (fun _ s'' => CX outer H s E e s'') (fun e' s'' => CX outer H s E e' s'') s'

theorem cell_has {sc : Scope} {n : Nat} {x : Str} (h : sc.names.lookup x = some .cell) : ∃ c, (cellsFrom n sc.names []).lookup x = some c := by
  have q := PySem.W.cellsFrom_some sc.names n [] (.inl h)
  exact Option.isSome_iff_exists.mp q

theorem inv_start {CX : CXT} {P : Program} {w : World} {K : PySem.W.Frag} {mg : Str → Option Value} {base : Heap} {N ps : List Str} {qual : Str} {scope : Scope} {f : Addr} {cd : Value} {A : Around} {outer : List Env} {s s1 : Shared} {H : Hp} {E : XK} {us : List Value} {vs : List V}
    (S : FnScope N ps scope) (hd : A.handled = none) (e0 : Env0 P w K mg base A outer s H) (hl : vs.length = ps.length) (r : Vals vs us)
    (x : InCallC s s.heap.objs.size (bindL (envOfC qual scope s.heap.objs.size f cd).kindOf (ps.zip us) fun _ => none) (cellsFrom (s.heap.objs.size + 1) scope.names []) (bindC (envOfC qual scope s.heap.objs.size f cd).kindOf (ps.zip us) fun _ => none) s1) :
    Inv (cxOf CX P w K mg base N qual scope f cd A outer s H E) [] (start N vs) H s1 := by
  have hpl : ps.length ≤ N.length := by have := congrArg List.length S.pre; rw [List.length_take] at this; omega
  obtain ⟨h1, tk, rfl, hk⟩ := x.done
  have noA : ∀ b : Addr, b ∉ (cxOf CX P w K mg base N qual scope f cd A outer s H E).ex := fun b z => absurd (show b ∈ ([] : List Addr) from z) (by simp)
  refine ⟨⟨e0.mod, S.kind, rfl, rfl, Nat.le_refl _, fun y z c h1 h2 => ?_, fun y hy => ?_, fun y c _ h => ?_, fun _ => hd, Around.frames_deeper e0.frames, .inr ⟨rfl, rfl⟩, fun b z => absurd z (noA b), e0.bs, e0.bsz, fun b _ _ => noA b, fun b z => absurd z (noA b), e0.funs, e0.frf⟩,
    rfl, e0.bare, Un.kept hk, ⟨_, x.toInCall.ns, fun i y v h1 h2 h3 => ?_⟩, fun y c h => ⟨_, x.cell y c h⟩, e0.hok.fresh (Nat.le_refl _), fun y c h => ?_, fun p hp => absurd (show p ∈ ([] : List (Addr × Obj)) from hp) (by simp), e0.hok.kept hk, ?_⟩
  · exact name_of_addr x.apart (PySem.mem_of_lookup h1) (PySem.mem_of_lookup h2)
  · have hy : scope.names.lookup y = some .cell ∨ scope.names.lookup y = some .free := hy
    rcases hy with hy | hy
    · exact cell_has hy
    · exact absurd rfl (S.nofree _ (PySem.mem_of_lookup hy))
  · exact Nat.le_of_lt (x.above y c (PySem.mem_of_lookup h))
  · have hi : i < vs.length := by
      unfold start at h2
      by_cases hi : i < vs.length
      · exact hi
      · rw [List.getElem?_append_right (by simpa using hi)] at h2
        rw [List.getElem?_replicate] at h2
        split at h2 <;> cases h2
    have ha : vs[i]? = some v := by
      unfold start at h2
      rw [List.getElem?_append_left (by simpa using hi), List.getElem?_map] at h2
      cases e : vs[i]? with
      | none => rw [e] at h2; cases h2
      | some a => rw [e] at h2; cases h2; rfl
    obtain ⟨u, hu, rv⟩ := r.get ha
    have hp : ps[i]? = some y := by
      rw [← S.pre, List.getElem?_take_of_lt (by omega)]; exact h1
    have ndP : ps.Nodup := by rw [← S.pre]; exact S.nd.sublist (List.take_sublist _ _)
    refine ⟨u, rv, ?_⟩
    rcases S.par y (List.mem_of_getElem? hp) with k | k
    · exact .inl ⟨k, bindL_get ndP hp hu k⟩
    · obtain ⟨c, e⟩ := cell_has (n := s.heap.objs.size + 1) k
      refine .inr ⟨.inl k, c, e, ?_⟩
      have q := x.cell y c e
      rw [bindC_get ndP hp hu (by show scope.names.lookup y ≠ _; rw [k]; decide)] at q
      exact q
  · exact e0.hok.fresh (Nat.le_of_lt (x.above y c (PySem.mem_of_lookup h)))
  · unfold start
    show _ = N.length
    rw [List.length_append, List.length_map, List.length_replicate]
    omega

/-- THE RULE: a def (or a method) of the text, by its body. The body's reading t is chosen for each entry; it is run at the parameters' values -/
theorem fn_of {CX : CXT} {P : Program} {w : World} {K : PySem.W.Frag} {mg : Str → Option Value} {base : Heap} {k : Nat} {f : Addr} {name qual : Str} {params : Arguments} {body : List Stmt} {scope : Scope} {dV kV doc pm cdv ct oc : Value} {an od : Option Addr}
    {osl : Array (Option Value)} {N ps : List Str} {sp : Sp} (lk : K.lookup f = some ⟨oc, od, .func (PySem.W.fnOf name qual params body scope dV kV doc pm an cdv ct), osl⟩) (hcd : PySem.W.codeIn K cdv qual = true) (S : FnScope N ps scope)
    (len : ∀ vs H Q E, sp vs H Q E → vs.length = ps.length)
    (hbody : ∀ (A : Around) (outer : List Env) (s : Shared) (H : Hp) (vs : List V) (Q : VK) (E : XK), Room k (A.deeper (envOfC qual scope s.heap.objs.size f cdv)) → sp vs H Q E →
      ∃ t, PSs (cxOf CX P w K mg base N qual scope f cdv A outer s H E) body t ∧ t { nx := fun _ H' => Q .non H', rt := Q } (start N vs) H) :
    FnOk P w K mg base CX (k + 1) f (PySem.W.fnOf name qual params body scope dV kV doc pm an cdv ct) ps sp := by
  refine ⟨len, fun A outer s H args us vs Q E hr e0 hb r hsp => ?_⟩
  have hl := len _ _ _ _ hsp
  have KX : K.In s.heap := e0.mod.kin.keeps fun b o e => (e0.bs b o e).1
  have lim : s.heap.NoLimit := e0.mod.nolimit.keeps fun b o e => (e0.bs b o e).1
  have hkind : ∀ y ∈ ps.zip us, scope.names.lookup y.1 = some .local ∨ (scope.names.lookup y.1 = some .cell ∧ ((cellsFrom (s.heap.objs.size + 1) scope.names []).lookup y.1).isSome = true) := fun ⟨n, v⟩ hy => by
    rcases S.par n (List.of_mem_zip hy).1 with q | q
    · exact .inl q
    · exact .inr ⟨q, PySem.W.cellsFrom_some _ _ _ (.inl q)⟩
  refine codeAny_call_function hr.depth (KX _ _ lk) rfl S.co S.gen rfl (PySem.W.codeRec_of KX hcd) (hb _ _ _ _ ?_)
  refine wpAny_newFunctionEnv_cells S.kind hkind fun env he s1 x => ?_
  subst he
  refine ⟨lim.keeps x.toInCall.keep, codeAny_func ?_⟩
  obtain ⟨t, ht, hq⟩ := hbody A outer s H vs Q E (hr.deeper _) hsp
  have I : Inv (cxOf CX P w K mg base N qual scope f cdv A outer s H E) [] (start N vs) H s1 := inv_start S hr.hd e0 hl r x
  refine wpAny_mono (ht [] s1 (start N vs) H _ I hq) (fun fl s' hs => ?_) fun e s' hs => hs
  have fin : ∀ {σ' : St} {H' : Hp} {v : V} {u : Value}, Inv (cxOf CX P w K mg base N qual scope f cdv A outer s H E) [] σ' H' s' → RelV v u → Q v H' → CE outer P w H s Q u s' :=
    fun {σ' H' v u} J rv q => ⟨v, H', J.os, J.bare, J.base, J.hok, rv, q⟩
  cases fl with
  | ret u =>
    obtain ⟨v, σ', H', J, rv, q⟩ := hs
    exact fin J rv q
  | next =>
    obtain ⟨σ', H', J, q⟩ := hs
    exact fin (v := V.non) (u := Value.none) J rfl q
  | brk =>
    obtain ⟨_, _, _, q⟩ := hs
    exact False.elim q
  | cont =>
    obtain ⟨_, _, _, q⟩ := hs
    exact False.elim q
end L2

namespace L2
open PySem PySem.Spec PyProof.Rows
section
variable {X : Cx} {x : Str} {p pos : Pos} {e : Expr} {es : List Expr} {t : TA} {id T : String} {r : List V → Hp → VK → Prop}

noncomputable def tCB (r : List V → Hp → VK → Prop) (t : TA) : TE := fun σ H Q => t σ H fun vs H1 => r vs H1 Q
/-- f(e, ..), f a built-in function -/
theorem pe_callB (hc : CallR X (.builtin id) r) (hg : Gl X x) (hm : X.mg x = none) (hv : bootBuiltins x = some (.builtin id)) (ha : PA X (e :: es) t) (hn : x ≠ "__name__" := by decide) (hdb : (x == ("__debug__" : Str)) = false := by decide)
    (he : starEach (e :: es) X.env = (false, eval e X.env) :: starEach es X.env := by rfl) (hpl : (backTo pos (starEach es X.env)).any (·.1) = false := by rfl) : PE X (.Call (.Name x p) (e :: es) [] pos) (tCB r t) := by
  intro pins s σ H Q I h
  refine wpAny_Call_Name_kw (ld_blt I hg hm hv ?_ hn hdb)
  exact PyProof.Rows.callWith_builtin1 (thn (ha pos pins s σ H _ I h) fun us s1 ⟨vs, H1, I1, r1, q1⟩ => hc pins s1 σ H1 vs us Q I1 r1 q1) he hpl
/-- T(e, ..), T a built-in type -/
theorem pe_callTy (hc : CallR X (.type T) r) (hg : Gl X x) (hm : X.mg x = none) (hv : bootBuiltins x = some (.type T)) (ha : PA X (e :: es) t) (hn : x ≠ "__name__" := by decide) (hdb : (x == ("__debug__" : Str)) = false := by decide)
    (he : starEach (e :: es) X.env = (false, eval e X.env) :: starEach es X.env := by rfl) (hpl : (backTo pos (starEach es X.env)).any (·.1) = false := by rfl) : PE X (.Call (.Name x p) (e :: es) [] pos) (tCB r t) := by
  intro pins s σ H Q I h
  refine wpAny_Call_Name_kw (ld_blt I hg hm hv ?_ hn hdb)
  exact PyProof.Rows.callWith_type1 (thn (ha pos pins s σ H _ I h) fun us s1 ⟨vs, H1, I1, r1, q1⟩ => hc pins s1 σ H1 vs us Q I1 r1 q1) he hpl
end
end L2

namespace L2
open PySem PySem.Spec PyProof.Rows

/-! ### lists of pairs as tables -/
section
variable {κ : Type} [DecidableEq κ]
noncomputable def valV (kvs : List (κ × V)) (k : κ) : Option V := (kvs.find? fun kv => decide (kv.1 = k)).map (·.2)
/-- in its place, or at the end -/
noncomputable def putK (kvs : List (κ × V)) (k : κ) (v : V) : List (κ × V) :=
  if (kvs.any fun kv => decide (kv.1 = k)) = true then kvs.map (fun kv => if kv.1 = k then (kv.1, v) else kv) else kvs ++ [(k, v)]

theorem valV_pos {p : κ × V} {r : List (κ × V)} {k : κ} (e : p.1 = k) : valV (p :: r) k = some p.2 := by simp [valV, List.find?_cons, e]
theorem valV_neg {p : κ × V} {r : List (κ × V)} {k : κ} (e : ¬ p.1 = k) : valV (p :: r) k = valV r k := by simp [valV, List.find?_cons, e]
theorem valV_any (k : κ) : ∀ kvs : List (κ × V), (kvs.any fun kv => decide (kv.1 = k)) = (valV kvs k).isSome
  | [] => rfl
  | p :: r => by
    rw [List.any_cons]
    by_cases e : p.1 = k
    · simp only [valV_pos e, decide_eq_true e, Bool.true_or, Option.isSome_some]
    · rw [valV_neg e, decide_eq_false e, Bool.false_or]; exact valV_any k r
theorem length_putK (kvs : List (κ × V)) (k : κ) (v : V) : (putK kvs k v).length ≤ kvs.length + 1 := by
  unfold putK
  split
  · rw [List.length_map]; omega
  · rw [List.length_append, List.length_cons, List.length_nil]; omega

theorem RelO.isSome_eq {o : Option V} {u : Option Value} (r : RelO o u) : o.isSome = u.isSome := by
  cases o with
  | none => cases u with
    | none => rfl
    | some _ => exact (show False from r).elim
  | some _ => cases u with
    | none => exact (show False from r).elim
    | some _ => rfl
theorem RelO.getD {o : Option V} {u : Option Value} {d : V} {d' : Value} (r : RelO o u) (rd : RelV d d') : RelV (o.getD d) (u.getD d') := by
  cases o with
  | none => cases u with
    | none => exact rd
    | some _ => exact (show False from r).elim
  | some _ => cases u with
    | none => exact (show False from r).elim
    | some _ => exact r

/-- raw tables of the same keys -/
theorem KV.val {kvs : List (κ × V)} {vs : List (κ × Value)} (r : KV kvs vs) (k : κ) : RelO (valV kvs k) (valueAt vs k) := by
  unfold KV at r
  induction r with
  | nil => exact True.intro
  | @cons p q ps qs h t ih =>
    obtain ⟨h1, h2⟩ := h
    by_cases e : p.1 = k
    · have e' : q.1 = k := h1.symm.trans e
      have b : valueAt (q :: qs) k = some q.2 := by simp [valueAt, List.find?_cons, e']
      rw [valV_pos e, b]; exact h2
    · have e' : ¬ q.1 = k := fun z => e (h1.trans z)
      have b : valueAt (q :: qs) k = valueAt qs k := by simp [valueAt, List.find?_cons, e']
      rw [valV_neg e, b]; exact ih
theorem KV.any {kvs : List (κ × V)} {vs : List (κ × Value)} (r : KV kvs vs) (k : κ) : (kvs.any fun kv => decide (kv.1 = k)) = vs.any fun kv => decide (kv.1 = k) := by
  unfold KV at r
  induction r with
  | nil => rfl
  | cons h t ih => rw [List.any_cons, List.any_cons, ih, h.1]
theorem KV.repl {kvs : List (κ × V)} {vs : List (κ × Value)} (r : KV kvs vs) (k : κ) {y : V} {u : Value} (ry : RelV y u) :
    KV (kvs.map fun kv => if kv.1 = k then (kv.1, y) else kv) (vs.map fun kv => if kv.1 = k then (kv.1, u) else kv) := by
  unfold KV at r ⊢
  induction r with
  | nil => exact .nil
  | @cons p q ps qs h t ih =>
    rw [List.map_cons, List.map_cons]
    refine .cons ?_ ih
    obtain ⟨h1, h2⟩ := h
    by_cases e : p.1 = k
    · rw [if_pos e, if_pos (h1.symm.trans e)]; exact ⟨h1, ry⟩
    · rw [if_neg e, if_neg (fun z => e (h1.trans z))]; exact ⟨h1, h2⟩
theorem KV.put {kvs : List (κ × V)} {vs : List (κ × Value)} (r : KV kvs vs) (k : κ) {y : V} {u : Value} (ry : RelV y u) : KV (putK kvs k y) (stored vs k u) := by
  unfold putK stored
  rw [r.any k]
  by_cases e : (vs.any fun kv => decide (kv.1 = k)) = true
  · rw [if_pos e, if_pos e]; exact r.repl k ry
  · rw [if_neg e, if_neg e]; exact Paired.snoc r ⟨rfl, ry⟩
theorem KV.length {kvs : List (κ × V)} {vs : List (κ × Value)} (r : KV kvs vs) : kvs.length = vs.length := Paired.length r
end


/-! ### a tracked dict, its keys ints and texts or tuples of these -/
theorem kV_is {P : Program} {w : World} {k : Key} {u : Value} (r : RelV (kV k) u) : (mixKind P w).is k u = true := by
  cases k with
  | inl i => obtain ⟨t, e⟩ := (show ∃ t, u = Value.int i t from r); subst e; exact mixKind_int P w i t
  | inr x => obtain ⟨t, e⟩ := (show ∃ t, u = Value.str x t from r); subst e; exact mixKind_str P w x t
theorem items_are {P : Program} {w : World} : ∀ {ks : List Key} {us : List Value}, Vals (ks.map kV) us → ItemsAre (mixKind P w) ks us
  | [], _, r => by rw [List.map_nil] at r; cases r; exact .nil
  | k :: ks, _, r => by
    rw [List.map_cons] at r
    cases r with
    | cons h t => exact .cons (kV_is h) (items_are t)

/-- raw entries of a dict with tuple keys -/
noncomputable abbrev KT (H : Hp) : List (List Key × V) → List (List Key × Addr × Value) → Prop := Paired fun p q => p.1 = q.1 ∧ H q.2.1 = some (.tup (p.1.map kV)) ∧ RelV p.2 q.2.2
theorem KT.val {H : Hp} {kvs : List (List Key × V)} {xs : List (List Key × Addr × Value)} (r : KT H kvs xs) (k : List Key) : RelO (valV kvs k) ((atKey xs k).map (·.2)) := by
  induction r with
  | nil => exact True.intro
  | @cons p q ps qs h t ih =>
    obtain ⟨h1, _, h2⟩ := h
    by_cases e : p.1 = k
    · have e' : q.1 = k := h1.symm.trans e
      have b : atKey (q :: qs) k = some q.2 := by simp [atKey, List.find?_cons, e']
      rw [valV_pos e, b]; exact h2
    · have e' : ¬ q.1 = k := fun z => e (h1.trans z)
      have b : atKey (q :: qs) k = atKey qs k := by simp [atKey, List.find?_cons, e']
      rw [valV_neg e, b]; exact ih
theorem KT.repl {H : Hp} {kvs : List (List Key × V)} {xs : List (List Key × Addr × Value)} (r : KT H kvs xs) (k : List Key) {y : V} {u : Value} (ry : RelV y u) :
    KT H (kvs.map fun kv => if kv.1 = k then (kv.1, y) else kv) (xs.map (putAt k u)) := by
  induction r with
  | nil => exact .nil
  | @cons p q ps qs h t ih =>
    rw [List.map_cons, List.map_cons]
    refine .cons ?_ ih
    obtain ⟨h1, h2, h3⟩ := h
    unfold putAt
    by_cases e : p.1 = k
    · rw [if_pos e, if_pos (h1.symm.trans e)]; exact ⟨h1, h2, ry⟩
    · rw [if_neg e, if_neg (fun z => e (h1.trans z))]; exact ⟨h1, h2, h3⟩
theorem KT.put {H : Hp} {kvs : List (List Key × V)} {xs : List (List Key × Addr × Value)} (r : KT H kvs xs) (k : List Key) {b : Addr} {y : V} {u : Value} (hb : H b = some (.tup (k.map kV))) (ry : RelV y u) :
    KT H (putK kvs k y) (storedH xs k b u) := by
  have e : (kvs.any fun kv => decide (kv.1 = k)) = (atKey xs k).isSome := by
    rw [valV_any, (r.val k).isSome_eq, Option.isSome_map]
  unfold putK storedH
  rw [e]
  by_cases q : (atKey xs k).isSome = true
  · rw [if_pos q, if_pos q]; exact r.repl k ry
  · rw [if_neg q, if_neg q]; exact Paired.snoc r ⟨rfl, hb, ry⟩
theorem KT.keeps {H H' : Hp} {kvs : List (List Key × V)} {xs : List (List Key × Addr × Value)} (r : KT H kvs xs) (ht : ∀ b ys, H b = some (.tup ys) → H' b = some (.tup ys)) : KT H' kvs xs :=
  Paired.mapP r fun _ _ z => ⟨z.1, ht _ _ z.2.1, z.2.2⟩

section
variable {P : Program} {w : World} {H : Hp} {h : Heap} {a : Addr}
theorem rd_of {u : HO} (ok : HOk P w H h) (e : Rd H a u) : ObjOk P w H h a u := e.ok ok
theorem dk_rd {kvs : List (Key × V)} (ok : HOk P w H h) (e : Rd H a (.dK kvs)) : kvs.length ≤ sizeLine ∧ (a == sysModules) = false ∧ ∃ vs, KV kvs vs ∧ h.DictOf (mixKind P w) a vs :=
  show ObjOk P w H h a (.dK kvs) from rd_of ok e
theorem dk_of {kvs : List (Key × V)} (ok : HOk P w H h) (e : H a = some (.dK kvs)) : kvs.length ≤ sizeLine ∧ (a == sysModules) = false ∧ ∃ vs, KV kvs vs ∧ h.DictOf (mixKind P w) a vs := dk_rd ok (.inl e)
/-- a tracked tuple of ints and texts is a key -/
theorem key_of {ks : List Key} (ok : HOk P w H h) (e : H a = some (.tup (ks.map kV))) : (tupleKind (mixKind P w)).is h ks a := by
  obtain ⟨_, its, r, o, h1, h2, n, h3⟩ := (show ObjOk P w H h a (.tup (ks.map kV)) from ok a _ e)
  exact ⟨o, its.toArray, n, h1, h2, h3, by simpa using items_are r⟩
theorem dt_rd {kvs : List (List Key × V)} (ok : HOk P w H h) (e : Rd H a (.dT kvs)) : kvs.length ≤ sizeLine ∧ (a == sysModules) = false ∧
    ∃ xs, KT H kvs xs ∧ h.DictOfH (tupleKind (mixKind P w)) a xs := by
  obtain ⟨z, y, xs, r, o, es, ep, h1, h2, h3, h4, h5⟩ := (show ObjOk P w H h a (.dT kvs) from rd_of ok e)
  refine ⟨z, y, xs, r, o, es, ep, h1, h2, h3, h4, fun x hx => ?_, h5⟩
  have all : ∀ {l : List (List Key × V)} {m : List (List Key × Addr × Value)}, KT H l m → ∀ x ∈ m, (tupleKind (mixKind P w)).is h x.1 x.2.1 := by
    intro l m q
    induction q with
    | nil => intro x hx; exact nomatch hx
    | @cons p q ps qs hq t ih =>
      intro x hx
      rcases List.mem_cons.mp hx with e | hx
      · subst e
        exact key_of ok (by rw [← hq.1]; exact hq.2.1)
      · exact ih x hx
  exact all r x hx
theorem dt_of {kvs : List (List Key × V)} (ok : HOk P w H h) (e : H a = some (.dT kvs)) : kvs.length ≤ sizeLine ∧ (a == sysModules) = false ∧
    ∃ xs, KT H kvs xs ∧ h.DictOfH (tupleKind (mixKind P w)) a xs := dt_rd ok (.inl e)
end

/-- what the dict at a holds at the key y -/
noncomputable def DGet (H : Hp) (a : Addr) (y : V) (r : Option V) : Prop :=
  (∃ kvs k, Rd H a (.dK kvs) ∧ y = kV k ∧ r = valV kvs k) ∨ ∃ kvs k b, Rd H a (.dT kvs) ∧ y = .ref b ∧ H b = some (.tup (k.map kV)) ∧ r = valV kvs k
/-- the heap behind a[y] = v -/
noncomputable def DPut (H : Hp) (a : Addr) (y v : V) (H' : Hp) : Prop :=
  (∃ kvs k, H a = some (.dK kvs) ∧ y = kV k ∧ kvs.length < sizeLine ∧ H' = upd H a (.dK (putK kvs k v))) ∨
  ∃ kvs k b, H a = some (.dT kvs) ∧ y = .ref b ∧ H b = some (.tup (k.map kV)) ∧ kvs.length < sizeLine ∧ H' = upd H a (.dT (putK kvs k v))
theorem DGet.k {H : Hp} {a : Addr} {kvs : List (Key × V)} {k : Key} (e : H a = some (.dK kvs)) : DGet H a (kV k) (valV kvs k) := .inl ⟨kvs, k, .inl e, rfl, rfl⟩


section
variable {X : Cx} {pins : List (Addr × Obj)} {σ : St} {H : Hp} {s : Shared} {a : Addr} {y v : V} {u r : Value} {o : Option V} {A : Around} {E : Value → Shared → Prop}

theorem Inv.big (I : Inv X pins σ H s) : sysModules < s.heap.objs.size := by
  have h : mainGlobals < s.heap.objs.size := (I.mod.glob.keeps I.bk).lt
  exact Nat.lt_trans (by decide) h

/-- d[y], there -/
theorem d_getItem {Q : Value → Shared → Prop} (hu : A.units + 1 < cLine) (I : Inv X pins σ H s) (g : DGet H a y (some v)) (ry : RelV y u) (h : ∀ w' s', Inv X pins σ H s' → RelV v w' → Q w' s') :
    wpAny (model X.prog X.w) A (getItem (.ref a) u) Q E s := by
  rcases g with ⟨kvs, k, e, ey, l⟩ | ⟨kvs, k, b, e, ey, eb, l⟩
  · subst ey
    obtain ⟨z, hd, vs, rel, dd⟩ := dk_rd I.hok e
    obtain ⟨w', hw, rw'⟩ := RelO.some_of (v := v) (o := valueAt vs k) (by rw [l]; exact rel.val k)
    exact wpAny_getItem_of (kV_is ry) dd.mapOf hw (h w' _ (I.tok _) rw')
  · subst ey
    cases (show u = Value.ref b from ry)
    obtain ⟨z, hd, xs, rel, dd⟩ := dt_rd I.hok e
    obtain ⟨w', hw, rw'⟩ := RelO.some_of (v := v) (o := (atKey xs k).map (·.2)) (by rw [l]; exact rel.val k)
    obtain ⟨p, hp, hp2⟩ := Option.map_eq_some_iff.mp hw
    refine wpAny_getItem_heap (tupleKind_room_in1 hu) (key_of I.hok eb) dd hp ?_
    rw [hp2]
    exact h w' _ (I.tok _) rw'
/-- y in d -/
theorem d_in {Q : Value → Shared → Prop} (hu : A.units + 1 < cLine) (I : Inv X pins σ H s) (g : DGet H a y o) (ry : RelV y u) (h : ∀ s', Inv X pins σ H s' → Q (.bool o.isSome) s') :
    wpAny (model X.prog X.w) A (compareOp .In u (.ref a)) Q E s := by
  rcases g with ⟨kvs, k, e, ey, l⟩ | ⟨kvs, k, b, e, ey, eb, l⟩
  · subst ey
    obtain ⟨z, hd, vs, rel, dd⟩ := dk_rd I.hok e
    refine wpAny_in_of (kV_is ry) hd dd.mapOf ?_
    rw [← (rel.val k).isSome_eq, ← l]
    exact h _ (I.tok _)
  · subst ey
    cases (show u = Value.ref b from ry)
    obtain ⟨z, hd, xs, rel, dd⟩ := dt_rd I.hok e
    refine wpAny_in_heap (tupleKind_room_in1 hu) (key_of I.hok eb) hd dd ?_
    have q := (rel.val k).isSome_eq
    rw [Option.isSome_map] at q
    rw [← q, ← l]
    exact h _ (I.tok _)
theorem d_notIn {Q : Value → Shared → Prop} (hu : A.units + 1 < cLine) (I : Inv X pins σ H s) (g : DGet H a y o) (ry : RelV y u) (h : ∀ s', Inv X pins σ H s' → Q (.bool (!o.isSome)) s') :
    wpAny (model X.prog X.w) A (compareOp .NotIn u (.ref a)) Q E s := by
  rcases g with ⟨kvs, k, e, ey, l⟩ | ⟨kvs, k, b, e, ey, eb, l⟩
  · subst ey
    obtain ⟨z, hd, vs, rel, dd⟩ := dk_rd I.hok e
    refine wpAny_notIn_of (kV_is ry) hd dd.mapOf ?_
    rw [← (rel.val k).isSome_eq, ← l]
    exact h _ (I.tok _)
  · subst ey
    cases (show u = Value.ref b from ry)
    obtain ⟨z, hd, xs, rel, dd⟩ := dt_rd I.hok e
    refine wpAny_notIn_heap (tupleKind_room_in1 hu) (key_of I.hok eb) hd dd ?_
    have q := (rel.val k).isSome_eq
    rw [Option.isSome_map] at q
    rw [← q, ← l]
    exact h _ (I.tok _)
/-- a dict's object is replaced -/
theorem d_write {h' : Heap} {t' : Nat} {ob : HO} (I : Inv X pins σ H s) (mu : Mut (H a)) (hs : Heap.SameBut a s.heap h') (he : ∃ q, h'.get? a = some q) (new : ObjOk X.prog X.w (upd H a ob) h' a ob) :
    Inv X pins σ (upd H a ob) { s with heap := h', toks := t' } :=
  I.write (x := a) (e := a) mu (.inl rfl) (fun b q hb z => (hs.2 b hb).trans z) he new
theorem dk_new {P : Program} {w : World} {H' : Hp} {h' : Heap} {kvs : List (Key × V)} {vs : List (Key × Value)} (z : kvs.length ≤ sizeLine) (hd : (a == sysModules) = false) (rel : KV kvs vs) (dd : h'.DictOf (mixKind P w) a vs) :
    ObjOk P w H' h' a (.dK kvs) := ⟨z, hd, vs, rel, dd⟩
/-- d[y] = v -/
theorem d_setItem {H' : Hp} {Q : Unit → Shared → Prop} (hu : A.units + 1 < cLine) (I : Inv X pins σ H s) (g : DPut H a y v H') (ry : RelV y u) (rv : RelV v r) (h : ∀ s', Inv X pins σ H' s' → Q () s') :
    wpAny (model X.prog X.w) A (setItem (.ref a) u r) Q E s := by
  rcases g with ⟨kvs, k, e, ey, l, eH⟩ | ⟨kvs, k, b, e, ey, eb, l, eH⟩
  · subst ey eH
    obtain ⟨z, hd, vs, rel, dd⟩ := dk_of I.hok e
    have hz : vs.length ≤ sizeLine := by rw [← rel.length]; exact z
    have hl : (putK kvs k v).length ≤ sizeLine := by have := length_putK kvs k v; omega
    refine wpAny_setItem_pairs (hsz := hz) (kV_is ry) dd fun h' dd' hs => h _ ?_
    have he : ∃ q, h'.get? a = some q := let ⟨q, _, _, hq, _⟩ := dd'; ⟨q, hq⟩
    exact d_write I (by rw [e]; exact True.intro) hs he (dk_new hl hd (rel.put k rv) dd')
  · subst ey eH
    cases (show u = Value.ref b from ry)
    obtain ⟨z, hd, xs, rel, dd⟩ := dt_of I.hok e
    have hz : xs.length ≤ sizeLine := by rw [← Paired.length rel]; exact z
    have hl : (putK kvs k v).length ≤ sizeLine := by have := length_putK kvs k v; omega
    refine wpAny_setItem_heap (hsz := hz) (tupleKind_room_in1 hu) (key_of I.hok eb) dd fun h' dd' hs => h _ ?_
    obtain ⟨q, es, ep, hq, h2, h3, h4, _, h5⟩ := dd'
    refine d_write I (by rw [e]; exact True.intro) hs ⟨q, hq⟩ ⟨hl, hd, _, (rel.put k eb rv).keeps fun c ys ec => ?_, q, es, ep, hq, h2, h3, h4, h5⟩
    rw [upd_ne (ne_of ec e (fun z => nomatch z))]
    exact ec
end

section
variable {X : Cx} {pins : List (Addr × Obj)} {σ : St} {H : Hp} {s : Shared} {a : Addr} {kvs : List (Key × V)} {k : Key} {u : Value} {A : Around} {E : Value → Shared → Prop}
end


/-! ### readings and rules -/
/-- the element of a subscription, not a slice -/
noncomputable def NoSl (i : Expr) : Prop := ∀ ov iv, subscripted i false ov iv = operate [ov, iv] (getItem ov iv)
theorem subD_of {prog : Program} {w : World} {A : Around} {E : Value → Shared → Prop} {s : Shared} {env : Env} {value slice : Expr} {pos : Pos} {T id : String} {Q : Value → Shared → Prop}
    (hl : typeLookup (.type T) "__getitem__" = pure (some (.builtin id))) (hs : NoSl slice)
    (h : wpAny (model prog w) A (eval value env) (fun o s₁ => wpAny (model prog w) A (eval slice env) (fun i s₂ => s₂.TypeIs o T ∧ wpAny (model prog w) A (getItem o i) Q E s₂) E s₁) E s) :
    wpAny (model prog w) A (eval (.Subscript value slice pos) env) Q E s := by
  refine Subscript_ (wpAny_mono h (fun o s₁ h₁ => wpAny_mono h₁ (fun i s₂ h₂ => ?_) fun _ _ x => x) fun _ _ x => x)
  obtain ⟨hT, h₂⟩ := h₂
  unfold subscriptTail
  refine wpAny_bind ?_
  rw [getitemInPython_of_ne hT.not_modules]
  refine wpAny_bind (wpAny_specialOf hT hl ?_)
  have fin : wpAny (model prog w) A (subscripted slice false o i) (fun r s₃ => wpAny (model prog w) A (letTemporaryGo value o r >>= fun _ => pure r) Q E s₃) E s₂ := by
    rw [hs o i]
    exact wpAny_operating (wpAny_mono h₂ (fun r s₃ h₃ => wpAny_bind (wpAny_letTemporaryGo (wpAny_pure h₃))) fun _ _ x => x)
  first
    | exact wpAny_pure (wpAny_bind fin)
    | exact wpAny_bind (wpAny_pure (wpAny_bind fin))
    | exact wpAny_bind fin

theorem dict_typeIs {X : Cx} {pins : List (Addr × Obj)} {σ : St} {H : Hp} {s : Shared} {a : Addr} {y : V} {o : Option V} (I : Inv X pins σ H s) (g : DGet H a y o) : s.TypeIs (.ref a) "dict" := by
  rcases g with ⟨kvs, k, e, _, _⟩ | ⟨kvs, k, b, e, _, _, _⟩
  · obtain ⟨_, _, vs, _, dd⟩ := dk_rd I.hok e
    exact dd.typeIs
  · obtain ⟨_, _, xs, _, dd⟩ := dt_rd I.hok e
    exact dd.typeIs

/-- d[y] -/
noncomputable def tDGet (td ty : TE) : TE := fun σ H Q => td σ H fun x H1 => ty σ H1 fun y H2 => ∃ a v, x = .ref a ∧ DGet H2 a y (some v) ∧ Q v H2
/-- y in d, y not in d -/
noncomputable def tDIn (ty td : TE) : TE := fun σ H Q => ty σ H fun y H1 => td σ H1 fun x H2 => ∃ a o, x = .ref a ∧ DGet H2 a y o ∧ Q (.bl o.isSome) H2
noncomputable def tDNotIn (ty td : TE) : TE := fun σ H Q => ty σ H fun y H1 => td σ H1 fun x H2 => ∃ a o, x = .ref a ∧ DGet H2 a y o ∧ Q (.bl (!o.isSome)) H2
/-- d[y] = v -/
noncomputable def sDPut (td ty tv : TE) : TS := fun D σ H => tv σ H fun v H1 => td σ H1 fun x H2 => ty σ H2 fun y H3 => ∃ a H4, x = .ref a ∧ DPut H3 a y v H4 ∧ D.nx σ H4

section
variable {X : Cx} {o i e value : Expr} {pos pos' tpos : Pos} {td ty tv : TE}
theorem pe_dget (hu : X.A.units + 1 < cLine) (ho : PE X o td) (hi : PE X i ty) (hs : NoSl i) : PE X (.Subscript o i pos) (tDGet td ty) := by
  intro pins s σ H Q I h
  refine subD_of PySem.F.slot_dict_getitem.lookup hs (thn (ho pins s σ H _ I h) fun u s1 ⟨x, H1, I1, rx, q1⟩ => thn (hi pins s1 σ H1 _ I1 q1) fun iv s2 ⟨y, H2, I2, ry, a, v, ex, g, q2⟩ => ?_)
  subst ex
  obtain rfl : u = Value.ref a := rx
  exact ⟨dict_typeIs I2 g, d_getItem hu I2 g ry fun w' s3 I3 rw' => ⟨v, H2, I3, rw', q2⟩⟩
theorem pc_din (hu : X.A.units + 1 < cLine) (hi : PE X i ty) (ho : PE X o td) : PC X .In i o (tDIn ty td) := by
  intro pins s σ H Q I h
  refine thn (hi pins s σ H _ I h) fun iv s1 ⟨y, H1, I1, ry, q1⟩ => thn (ho pins s1 σ H1 _ I1 q1) fun u s2 ⟨x, H2, I2, rx, a, ov, ex, g, q2⟩ => ?_
  subst ex
  obtain rfl : u = Value.ref a := rx
  exact d_in hu I2 g ry fun s3 I3 => ⟨.bl ov.isSome, H2, I3, rfl, q2⟩
theorem pc_dnotin (hu : X.A.units + 1 < cLine) (hi : PE X i ty) (ho : PE X o td) : PC X .NotIn i o (tDNotIn ty td) := by
  intro pins s σ H Q I h
  refine thn (hi pins s σ H _ I h) fun iv s1 ⟨y, H1, I1, ry, q1⟩ => thn (ho pins s1 σ H1 _ I1 q1) fun u s2 ⟨x, H2, I2, rx, a, ov, ex, g, q2⟩ => ?_
  subst ex
  obtain rfl : u = Value.ref a := rx
  exact d_notIn hu I2 g ry fun s3 I3 => ⟨.bl (!ov.isSome), H2, I3, rfl, q2⟩
theorem ps_dput (hu : X.A.units + 1 < cLine) (ho : PE X o td) (hi : PE X i ty) (hv : PE X value tv) (hs : swapsWith value (some (.Subscript o i pos')) pos.line X.env = pure false) :
    PS X (.Assign [.Subscript o i pos'] value pos) (sDPut td ty tv) := by
  intro pins s σ H D I h
  refine wpAny_Assign_Subscript (thn (hv pins s σ H _ I h) fun r s1 ⟨v, H1, I1, rv, q1⟩ => thn (ho pins s1 σ H1 _ I1 q1) fun u s2 ⟨x, H2, I2, rx, q2⟩ => thn (hi pins s2 σ H2 _ I2 q2) fun iv s3 ⟨y, H3, I3, ry, a, H4, ex, g, q3⟩ => ?_) hs
  subst ex
  obtain rfl : u = Value.ref a := rx
  exact d_setItem hu I3 g ry rv fun s4 I4 => ⟨σ, H4, I4, q3⟩
end


/-! ### displays -/
theorem dk_empty {P : Program} {w : World} {H : Hp} (h : Heap) (hb : sysModules < h.objs.size) : ObjOk P w H (h.push { cls := .type "dict", data := .dict #[] }) h.objs.size (.dK []) :=
  ⟨Nat.zero_le _, beq_eq_false_iff_ne.mpr (Ne.symm (Nat.ne_of_lt hb)), [], .nil, Heap.DictOf.new h⟩
/-- {}, to be a dict of the kind that is wanted -/
noncomputable def tDNewK : TE := fun _ H Q => ∀ p, H p = none → Q (.ref p) (upd H p (.dK []))
section
variable {X : Cx} {pos : Pos}
theorem pe_dnewK : PE X (.Dict [] [] pos) tDNewK := fun pins s σ H Q I h =>
  wpAny_Dict_empty ⟨.ref s.heap.objs.size, _, I.laid (a := s.heap.objs.size) (o := .dK []) (t' := s.toks) (fun _ _ q => Heap.get?_push_of_some _ q) (Nat.le_refl _) (dk_empty s.heap I.big), rfl, h _ (I.hok.fresh (Nat.le_refl _))⟩
end




/-! ### methods -/
structure M2 (X : Cx) (o : Expr) (m : Str) (apos : Pos) (e f : Expr) (cpos : Pos) : Prop where
  base : attributeBase o m X.env (eval o X.env) = eval o X.env
  few : ((backTo cpos (starEach [e, f] X.env)).all (fun x => !x.1) && (backToKw cpos (keywordEach [] X.env)).all (fun x => x.1.isSome)
    && decide (([e, f] : List Expr).length + ([] : List Keyword).length + (if ([] : List Keyword).isEmpty then 0 else 1) < 30)) = true
  line : (apos.endLine == cpos.line) = true
  trees : backTo cpos (starEach [e, f] X.env) = [(false, eval e X.env), (false, eval f X.env)]

/-- a is a dict, whatever its keys -/
noncomputable def IsD (H : Hp) (a : Addr) : Prop := (∃ kvs, Rd H a (.dK kvs)) ∨ ∃ kvs, Rd H a (.dT kvs)
theorem isD_at {X : Cx} {pins : List (Addr × Obj)} {σ : St} {H : Hp} {s : Shared} {a : Addr} (I : Inv X pins σ H s) (d : IsD H a) :
    s.TypeIs (.ref a) "dict" ∧ (∀ b, Value.ref a = .ref b → ∃ ob, s.heap.get? b = some ob ∧ ob.dict = none) ∧ (a == sysModules) = false := by
  rcases d with ⟨kvs, e⟩ | ⟨kvs, e⟩
  · obtain ⟨_, hd, vs, _, dd⟩ := dk_rd I.hok e
    refine ⟨dd.typeIs, fun b q => ?_, hd⟩
    cases q
    obtain ⟨ob, _, _, h1, h2, _⟩ := dd
    exact ⟨ob, h1, h2.2.1⟩
  · obtain ⟨_, hd, xs, _, dd⟩ := dt_rd I.hok e
    refine ⟨dd.typeIs, fun b q => ?_, hd⟩
    cases q
    obtain ⟨ob, _, _, h1, h2, _⟩ := dd
    exact ⟨ob, h1, h2.2.1⟩

section
variable {X : Cx} {pins : List (Addr × Obj)} {σ : St} {H : Hp} {s : Shared} {a : Addr} {y d : V} {u r : Value} {o : Option V} {A : Around} {E : Value → Shared → Prop}
/-- d.get(y, x) -/
theorem d_get2 {Q : Value → Shared → Prop} (hu : A.units + 1 < cLine) (I : Inv X pins σ H s) (g : DGet H a y o) (ry : RelV y u) (rd : RelV d r) (h : ∀ w' s', Inv X pins σ H s' → RelV (o.getD d) w' → Q w' s') :
    wpAny (model X.prog X.w) A (call (.builtin "dict.get") [.ref a, u, r]) Q E s := by
  rcases g with ⟨kvs, k, e, ey, l⟩ | ⟨kvs, k, b, e, ey, eb, l⟩
  · subst ey
    obtain ⟨z, hd, vs, rel, dd⟩ := dk_rd I.hok e
    refine call_meetsIn PySem.F.slot_dict_get dd.typeIs PySem.F.entry_dict_get (PySem.F.args_dict_get_3 _ _ _) (meets_dict_get_default (mixKind X.prog X.w) a (kV_is ry) hd r) ⟨_, dd.mapOf, h _ _ (I.tok _) ?_⟩
    rw [l]
    exact (rel.val k).getD rd
  · subst ey
    cases (show u = Value.ref b from ry)
    obtain ⟨z, hd, xs, rel, dd⟩ := dt_rd I.hok e
    refine call_meetsIn PySem.F.slot_dict_get dd.typeIs PySem.F.entry_dict_get (PySem.F.args_dict_get_3 _ _ _) (meetsH_dict_get_default (tupleKind (mixKind X.prog X.w)) a b hd r) ⟨tupleKind_room_in1 hu, k, xs, key_of I.hok eb, dd, h _ _ (I.tok _) ?_⟩
    rw [l]
    exact (rel.val k).getD rd
end

noncomputable def tDGet2 (td ty tx : TE) : TE := fun σ H Q => td σ H fun x H1 => ∃ a, x = .ref a ∧ IsD H1 a ∧ ty σ H1 fun y H2 => tx σ H2 fun z H3 => ∃ o, DGet H3 a y o ∧ Q (o.getD z) H3
section
variable {X : Cx} {o e f : Expr} {apos cpos : Pos} {td ty tx : TE}
theorem pe_dget2 (hu : X.A.units + 1 < cLine) (ho : PE X o td) (he : PE X e ty) (hf : PE X f tx) (m : M2 X o "get" apos e f cpos) : PE X (.Call (.Attribute o "get" apos) [e, f] [] cpos) (tDGet2 td ty tx) := by
  intro pins s σ H Q I h
  refine wpAny_Call_method m.base m.few m.line PySem.F.plainAttrs_dict PySem.F.slot_dict_get PySem.F.type_dict_get (thn (ho pins s σ H _ I h) fun u s1 ⟨x, H1, I1, rx, a, ex, d, q1⟩ => ?_)
  subst ex
  obtain rfl : u = Value.ref a := rx
  obtain ⟨t1, t2, _⟩ := isD_at I1 d
  refine ⟨t1, t2, ?_⟩
  rw [m.trees]
  refine Calls.callWith_builtin rfl (Calls.evalArgs_plain (Calls.spliced_cons (thn (he pins s1 σ H1 _ I1 q1) fun iv s2 ⟨y, H2, I2, ry, q2⟩ =>
    Calls.spliced_cons (thn (hf pins s2 σ H2 _ I2 q2) fun fv s3 ⟨z, H3, I3, rz, ov, g, q3⟩ => Calls.spliced_nil ?_))))
  exact d_get2 hu I3 g ry rz fun w' s4 I4 rw' => ⟨_, H3, I4, rw', q3⟩
end

/-! ### dict(d): a copy -/
section
variable {X : Cx} {pins : List (Addr × Obj)} {σ : St} {H : Hp} {s : Shared} {a : Addr} {kvs : List (Key × V)} {A : Around} {E : Value → Shared → Prop}
end


section
variable {X : Cx} {pins : List (Addr × Obj)} {σ : St} {H : Hp} {s : Shared} {a : Addr} {y : V} {u : Value} {A : Around} {E : Value → Shared → Prop}
end
end L2


namespace HT
open PySem PyProof.Rows



section
open PySem.SeqAt
open PySem.AutoSeq1 (wpAny_loadPart')
open PySem.MeetsSeq PySem.MeetsSeq2 PySem.MeetsSeq3

end

section
variable {prog : Program} {w : World} {A : Around} {E : Value → Shared → Prop} {s : Shared}



/-! ### t[a:b], not the whole -/
/-- a slice's bound as a place among n (d where it is left out) -/
noncomputable def sIx (n d : Nat) : Option Int → Nat
  | none => d
  | some v => if v < 0 then (v + (n : Int)).toNat else min v.toNat n

end
end HT

namespace L2
open PySem PySem.Spec PyProof.Rows

/-! ### the parts of a slice -/
noncomputable abbrev TO := St → Hp → (Option Int → Hp → Prop) → Prop
/-- a slice's part (left out, or an int) -/
noncomputable def PO (X : Cx) (e : Option Expr) (t : TO) : Prop :=
  ∀ (pins : List (Addr × Obj)) (s : Shared) (σ : St) (H : Hp) (Q : Option Int → Hp → Prop), Inv X pins σ H s → t σ H Q →
    wpAny (model X.prog X.w) X.A (evalPart e X.env) (fun u s' => ∃ o H', Inv X pins σ H' s' ∧ IsPart u o ∧ Q o H') X.xe s
noncomputable def tNoPart : TO := fun _ H Q => Q none H
noncomputable def tPart (t : TE) : TO := fun σ H Q => t σ H fun x H1 => ∃ i, x = .int i ∧ Q (some i) H1


section
variable {X : Cx} {e : Expr} {te : TE} {lo hi : Option Expr} {tl th : TO} {pos p2 : Pos}

theorem po_none : PO X none tNoPart := by
  intro pins s σ H Q I h
  rw [evalPart_none]
  exact wpAny_pure ⟨none, H, I, .none, h⟩
theorem po_some (h : PE X e te) : PO X (some e) (tPart te) := by
  intro pins s σ H Q I hw
  rw [evalPart_some]
  refine thn (h pins s σ H _ I hw) fun u s1 ⟨x, H1, I1, r1, q1⟩ => ?_
  obtain ⟨i, rfl, q⟩ := q1
  obtain ⟨t, rfl⟩ := r1
  exact ⟨some i, H1, I1, .int i t, q⟩

/-- what a slice of a value is, by values: the slice object stands at sl -/
noncomputable def SlR (X : Cx) (r : V → Option Int → Option Int → Hp → VK → Prop) : Prop :=
  ∀ (pins : List (Addr × Obj)) (s : Shared) (σ : St) (H : Hp) (x : V) (v vl vu : Value) (lo hi : Option Int) (sl : Addr) (Q : VK), Inv X pins σ H s → RelV x v → s.heap.IsSliceOf sl vl vu .none → IsPart vl lo → IsPart vu hi → r x lo hi H Q →
    ∃ T id, typeLookup (.type T) "__getitem__" = pure (some (.builtin id)) ∧ s.TypeIs v T ∧ wpAny (model X.prog X.w) X.A (getItem v (.ref sl)) (EP X pins σ Q) X.xe s
noncomputable def tSl (r : V → Option Int → Option Int → Hp → VK → Prop) (te : TE) (tl th : TO) : TE := fun σ H Q => te σ H fun x H1 => tl σ H1 fun l H2 => th σ H2 fun u H3 => r x l u H3 Q
/-- a[lo:hi], any a -/
theorem pe_slice {r : V → Option Int → Option Int → Hp → VK → Prop} (hr : SlR X r) (he : PE X e te) (hl : PO X lo tl) (hu : PO X hi th) : PE X (.Subscript e (.Slice lo hi none p2) pos) (tSl r te tl th) := by
  intro pins s σ H Q I h
  refine Subscript_ (thn (he pins s σ H _ I h) fun v s1 ⟨x, H1, I1, r1, q1⟩ => ?_)
  refine wpAny_Slice (thn (hl pins s1 σ H1 _ I1 q1) fun vl s2 ⟨l, H2, I2, pl, q2⟩ => thn (hu pins s2 σ H2 _ I2 q2) fun vu s3 ⟨u, H3, I3, pu, q3⟩ => ?_)
  rw [evalPart_none]
  refine wpAny_pure ?_
  have I4 : Inv X pins σ H3 { s3 with heap := s3.heap.push { cls := .type "slice", data := .fields #[vl, vu, .none] } } := I3.kept (t' := s3.toks) fun b ob q => Heap.get?_push_of_some _ q
  obtain ⟨T, id, hT, ht, hg⟩ := hr pins { s3 with heap := s3.heap.push { cls := .type "slice", data := .fields #[vl, vu, .none] } } σ H3 x v vl vu l u s3.heap.objs.size Q I4 r1 (Heap.IsSliceOf.new ..) pl pu q3
  show wpAny (model X.prog X.w) X.A (subscriptTail e (.Slice lo hi none p2) v (.ref s3.heap.objs.size)) (EP X pins σ Q) X.xe { s3 with heap := s3.heap.push { cls := .type "slice", data := .fields #[vl, vu, .none] } }
  exact tail_any (ops := [.ref s3.heap.objs.size, v]) ht hT hg (by with_unfolding_all rfl)

/-- the items of xs[lo:hi] -/
noncomputable def cutV (xs : List V) (lo hi : Option Int) : List V := (xs.drop (HT.sIx xs.length 0 lo)).take (HT.sIx xs.length xs.length hi - HT.sIx xs.length 0 lo)
theorem cutV_length (xs : List V) (lo hi : Option Int) : (cutV xs lo hi).length ≤ xs.length := by
  unfold cutV
  rw [List.length_take, List.length_drop]
  omega

/-! ### t < u, t + u -/
end
end L2

namespace L2
open PySem PySem.Spec PyProof.Rows

/-! ### places -/
/-- the place that an index of any sign means -/
noncomputable def ixN (n : Nat) (i : Int) : Option Nat := if 0 ≤ i then (if i < n then some i.toNat else none) else if -(n : Int) ≤ i then some (i + n).toNat else none
noncomputable def atI {α : Type} (xs : List α) (i : Int) : Option α := (ixN xs.length i).bind fun j => xs[j]?
theorem ixN_seq {n : Nat} {i : Int} {j : Nat} (h : ixN n i = some j) : seqIndex? i n = some j ∧ j < n ∧ -(n : Int) ≤ i ∧ i < n := by
  unfold ixN at h
  by_cases h0 : 0 ≤ i
  · rw [if_pos h0] at h
    by_cases h1 : i < n
    · rw [if_pos h1] at h
      have e : i.toNat = j := Option.some.inj h
      exact ⟨by rw [seqIndex_of h0 h1, e], by omega, by omega, h1⟩
    · rw [if_neg h1] at h; cases h
  · rw [if_neg h0] at h
    by_cases h1 : -(n : Int) ≤ i
    · rw [if_pos h1] at h
      have e : (i + n).toNat = j := Option.some.inj h
      exact ⟨by rw [seqIndex_neg (by omega) h1, e], by omega, h1, by omega⟩
    · rw [if_neg h1] at h; cases h
theorem atI_get {α : Type} {xs : List α} {i : Int} {v : α} (h : atI xs i = some v) : ∃ j, seqIndex? i xs.length = some j ∧ xs[j]? = some v ∧ j < xs.length ∧ -(xs.length : Int) ≤ i ∧ i < xs.length := by
  unfold atI at h
  cases e : ixN xs.length i with
  | none => rw [e] at h; cases h
  | some j =>
    rw [e] at h
    obtain ⟨h1, h2, h3, h4⟩ := ixN_seq e
    exact ⟨j, h1, h, h2, h3, h4⟩
theorem atI_nat {α : Type} {xs : List α} {j : Nat} {v : α} (h : xs[j]? = some v) : atI xs (j : Int) = some v := by
  have hj : j < xs.length := (List.getElem?_eq_some_iff.mp h).1
  have e : ixN xs.length (j : Int) = some j := by
    unfold ixN
    rw [if_pos (by omega), if_pos (by omega)]; simp
  unfold atI; rw [e]; exact h
theorem atI_last {α : Type} (xs : List α) (v : α) : atI (xs ++ [v]) (-1) = some v := by
  have hl : (xs ++ [v]).length = xs.length + 1 := by simp
  have e : ixN (xs ++ [v]).length (-1) = some xs.length := by
    unfold ixN
    rw [hl, if_neg (by decide), if_pos (by omega)]
    congr 1
    omega
  unfold atI
  rw [e]
  show (xs ++ [v])[xs.length]? = some v
  simp

/-! ### what may be subscripted -/
/-- what stands as an index of a plain subscript -/
noncomputable def PlainIx (b : Expr) : Prop := ∀ o i, subscripted b false o i = operate [o, i] (getItem o i)
/-- a subscript by values -/
noncomputable def IxR (X : Cx) (r : R2) : Prop :=
  ∀ (value slice : Expr) (pins : List (Addr × Obj)) (s : Shared) (σ : St) (H : Hp) (x y : V) (v u : Value) (Q : VK), Inv X pins σ H s → RelV x v → RelV y u → r x y H Q →
    subscripted slice false v u = operate [v, u] (getItem v u) → wpAny (model X.prog X.w) X.A (subscriptTail value slice v u) (EP X pins σ Q) X.xe s
/-- a call of a builtin's method by values: the receiver, the arguments -/
noncomputable def MtR (X : Cx) (id : String) (r : V → List V → Hp → VK → Prop) : Prop :=
  ∀ (pins : List (Addr × Obj)) (s : Shared) (σ : St) (H : Hp) (x : V) (xs : List V) (v : Value) (us : List Value) (Q : VK), Inv X pins σ H s → RelV x v → Vals xs us → r x xs H Q →
    wpAny (model X.prog X.w) X.A (call (.builtin id) (v :: us)) (EP X pins σ Q) X.xe s
section
variable {X : Cx} {a b : Expr} {ta tb : TE} {pos : Pos}
/-- a[b] -/
theorem pe_ix {r : R2} (hr : IxR X r) (ha : PE X a ta) (hb : PE X b tb) (hs : PlainIx b) : PE X (.Subscript a b pos) (tOp r ta tb) := by
  intro pins s σ H Q I h
  exact Subscript_ (binT ha hb I h fun v u s2 x y H2 I2 rx ry q => hr a b pins s2 σ H2 x y v u Q I2 rx ry q (hs _ _))

noncomputable def rIxL (K : PySem.W.Frag) : R2 := fun x y H Q => ∃ p xs i v, x = .ref p ∧ y = .int i ∧ SqL K H p xs ∧ atI xs i = some v ∧ Q v H
noncomputable def rIxT (K : PySem.W.Frag) : R2 := fun x y H Q => ∃ p xs i v, x = .ref p ∧ y = .int i ∧ SqT K H p xs ∧ atI xs i = some v ∧ Q v H
noncomputable def rIxS : R2 := fun x y H Q => ∃ z i c, x = .str z ∧ y = .int i ∧ z.length ≤ sizeLine ∧ atI z.cps.toList i = some c ∧ Q (.str ⟨#[c]⟩) H
theorem ix_list : IxR X (rIxL X.K) := by
  intro value slice pins s σ H x y v u Q I rx ry h hs
  obtain ⟨p, xs, i, z, rfl, rfl, hq, he, q⟩ := h
  cases rx
  obtain ⟨t, rfl⟩ := ry
  obtain ⟨its, r, pl, hz⟩ := I.list hq
  obtain ⟨j, h1, h2, h3, h4, h5⟩ := atI_get he
  obtain ⟨w, ew, rw'⟩ := r.get h2
  have hl := r.length
  have hn := line63
  have fin : EP X pins σ Q w s := ⟨z, H, I, rw', q⟩
  by_cases h0 : 0 ≤ i
  · have hj : i.toNat = j := by
      rw [seqIndex_of h0 h5] at h1
      exact Option.some.inj h1
    exact item_listR pl.isList h0 (by omega) (by rw [hj]; simpa using ew) fin hs
  · have hj : (i + (its.toArray.size : Int)).toNat = j := by
      rw [seqIndex_neg (by omega) h4] at h1
      rw [List.size_toArray, ← hl]
      exact Option.some.inj h1
    exact subscriptTail_builtinR (x := w) pl.isList.typeIs slot_list_getitem.lookup
      (wpAny_getItem_list_neg (Q := fun r s' => r = w ∧ EP X pins σ Q r s') pl.isList (by omega) (by rw [List.size_toArray] <;> omega) (by omega) (by rw [hj]; simpa using ew) ⟨rfl, fin⟩) hs
theorem ix_tup : IxR X (rIxT X.K) := by
  intro value slice pins s σ H x y v u Q I rx ry h hs
  obtain ⟨p, xs, i, z, rfl, rfl, hq, he, q⟩ := h
  cases rx
  obtain ⟨t, rfl⟩ := ry
  obtain ⟨its, r, pl, hz⟩ := I.tuple hq
  obtain ⟨j, h1, h2, h3, h4, h5⟩ := atI_get he
  obtain ⟨w, ew, rw'⟩ := r.get h2
  have hl := r.length
  have hn := line63
  have fin : EP X pins σ Q w s := ⟨z, H, I, rw', q⟩
  exact subscriptTail_builtinR (x := w) pl.typeIs slot_tuple_getitem.lookup
    (getItem_tuple (j := j) (Q := fun r s' => r = w ∧ EP X pins σ Q r s') pl (by omega) (by omega) (by rw [List.size_toArray, ← hl]; exact h1) (by simpa using ew) ⟨rfl, fin⟩) hs
theorem ix_str : IxR X rIxS := by
  intro value slice pins s σ H x y v u Q I rx ry h hs
  obtain ⟨z, i, c, rfl, rfl, hz, he, q⟩ := h
  obtain ⟨t, rfl⟩ := rx
  obtain ⟨t', rfl⟩ := ry
  obtain ⟨j, h1, h2, h3, h4, h5⟩ := atI_get he
  have hl : z.cps.toList.length = z.length := by simp [Str.length]
  rw [hl] at h1 h4 h5
  have hn := line63
  exact tail_any (typeIs_str s z t) slot_str_getitem.lookup (getItem_str (c := c) (by
    have e1 : decide (i < -(2 ^ 63 : Int)) = false := decide_eq_false (by omega)
    have e2 : decide (i ≥ 2 ^ 63) = false := decide_eq_false (by omega)
    rw [e1, e2, Bool.or_false]) (by rw [h1]; simpa using h2) ⟨.str ⟨#[c]⟩, H, I.tok _, ⟨_, rfl⟩, q⟩) hs

/-! ### xs[i] = v, any sign -/
/-- the list's object behind a store -/
theorem mapSeq_set (its : List Value) (n j : Nat) (u : Value) : Obj.mapSeq (·.setIfInBounds j u) { cls := .type "list", data := .seq its.toArray n } = { cls := .type "list", data := .seq (its.set j u).toArray n } := by
  simp [Obj.mapSeq]
theorem Inv.lst {pins : List (Addr × Obj)} {σ : St} {H : Hp} {s : Shared} {p : Addr} {xs : List V} (I : Inv X pins σ H s) (h : H p = some (.lst xs)) :
    ∃ (its : List Value) (n : Nat), Vals xs its ∧ s.heap.get? p = some { cls := .type "list", data := .seq its.toArray n } ∧ xs.length ≤ sizeLine := by
  obtain ⟨z, its, n, r, e⟩ := I.hok p _ h
  exact ⟨its, n, r, e, z⟩
/-- the list at p is written by an update of its object -/
theorem Inv.lstUpd {pins : List (Addr × Obj)} {σ : St} {H : Hp} {s : Shared} {p : Addr} {xs ys : List V} {its its' : List Value} {n n' : Nat} {f : Obj → Obj} (I : Inv X pins σ H s) (h : H p = some (.lst xs))
    (ho : s.heap.get? p = some { cls := .type "list", data := .seq its.toArray n }) (hf : f { cls := .type "list", data := .seq its.toArray n } = { cls := .type "list", data := .seq its'.toArray n' }) (r : Vals ys its') (hz : ys.length ≤ sizeLine) (t : Nat) :
    Inv X pins σ (upd H p (.lst ys)) { s with heap := s.heap.update p f, toks := t } := by
  have e : (s.heap.update p f).get? p = some { cls := .type "list", data := .seq its'.toArray n' } := by
    rw [Heap.get?_update_self f ho (by rw [hf] <;> rfl), hf]
  refine I.write (x := p) (e := p) (by rw [h]; trivial) (.inl rfl) (fun b u hb q => (Heap.get?_update_other _ _ (Ne.symm hb)).trans q) ⟨_, e⟩ ?_
  exact ⟨hz, its', n', r, e⟩
noncomputable def rSetL : V → V → V → Hp → (Hp → Prop) → Prop := fun o i v H Q => ∃ p xs k j, o = .ref p ∧ i = .int k ∧ H p = some (.lst xs) ∧ ixN xs.length k = some j ∧ Q (upd H p (.lst (xs.set j v)))
theorem set_list : PSet X rSetL := by
  intro pins s σ H o i v ov iv u Q I ro ri rv h
  obtain ⟨p, xs, k, j, rfl, rfl, hp, hj, q⟩ := h
  cases ro
  obtain ⟨t, rfl⟩ := ri
  obtain ⟨its, n, r, ho, hz⟩ := I.lst hp
  obtain ⟨h1, h2, h3, h4⟩ := ixN_seq hj
  have hl := r.length
  have hn := line63
  have I' : Inv X pins σ (upd H p (.lst (xs.set j v))) { s with heap := s.heap.update p (Obj.mapSeq (·.setIfInBounds j u)) } :=
    I.lstUpd hp ho (mapSeq_set its n j u) (r.set rv j) (by rw [List.length_set]; exact hz) s.toks
  by_cases h0 : 0 ≤ k
  · have hk : k.toNat = j := by
      rw [seqIndex_of h0 h4] at h1
      exact Option.some.inj h1
    exact PySem.W.ki_setAt ho h0 (by omega) (by rw [List.size_toArray, ← hl]; exact h4) (by rw [hk]; exact ⟨_, I', q⟩)
  · have hk : (k + (its.toArray.size : Int)).toNat = j := by
      rw [seqIndex_neg (by omega) h3] at h1
      rw [List.size_toArray, ← hl]
      exact Option.some.inj h1
    exact PySem.W.ki_setBack ho (by omega) (by rw [List.size_toArray, ← hl]; exact h3) (by omega) (by rw [hk]; exact ⟨_, I', q⟩)

/-! ### slices -/
theorem slice_bounds (lo hi : Option Int) (n : Nat) : (sliceBounds lo hi none n).1 = ((HT.sIx n 0 lo : Nat) : Int) ∧ (sliceBounds lo hi none n).2.1 = ((HT.sIx n n hi : Nat) : Int) ∧ (sliceBounds lo hi none n).2.2 = 1 := by
  refine ⟨?_, ?_, rfl⟩
  · cases lo with
    | none => simp [sliceBounds, HT.sIx]
    | some i =>
      simp only [sliceBounds, HT.sIx, Option.getD_none, show (1 : Int) > 0 by decide, if_true]
      by_cases h : i < 0
      · simp only [h, if_true] <;> omega
      · simp only [h, if_false] <;> omega
  · cases hi with
    | none => simp [sliceBounds, HT.sIx]
    | some i =>
      simp only [sliceBounds, HT.sIx, Option.getD_none, show (1 : Int) > 0 by decide, if_true]
      by_cases h : i < 0
      · simp only [h, if_true] <;> omega
      · simp only [h, if_false] <;> omega
theorem slicePick_cut (its : List Value) (lo hi : Option Int) : slicePick its.toArray lo hi none = ((its.drop (HT.sIx its.length 0 lo)).take (HT.sIx its.length its.length hi - HT.sIx its.length 0 lo)).toArray := by
  obtain ⟨h1, h2, h3⟩ := slice_bounds lo hi its.toArray.size
  unfold slicePick
  rw [h1, h2, h3]
  simp only [sliceRange_one, pick_run, List.size_toArray] <;> rfl
/-- xs[lo:hi] of a list: a new list -/
noncomputable def rSlL (K : PySem.W.Frag) : V → Option Int → Option Int → Hp → VK → Prop := fun x lo hi H Q => ∃ a xs, x = .ref a ∧ SqL K H a xs ∧ ∀ p, H p = none → Q (.ref p) (upd H p (.lst (cutV xs lo hi)))
theorem sl_list : SlR X (rSlL X.K) := by
  intro pins s σ H x v vl vu lo hi sl Q I rx hs pl pu h
  obtain ⟨a, xs, rfl, hx, q⟩ := h
  cases rx
  obtain ⟨its, r, ht, hz⟩ := I.list hx
  have hlen := r.length
  refine ⟨"list", _, slot_list_getitem.lookup, ht.isList.typeIs, ?_⟩
  refine wpAny_getItem_list_slice ht.isList hs pl pu .none (by simp) ?_ (by rw [List.size_toArray] <;> omega)
  rw [slicePick_cut, ← hlen]
  refine ⟨.ref s.heap.objs.size, _, I.laid (t' := s.toks) (o := .lst (cutV xs lo hi)) (fun b ob q => Heap.get?_push_of_some _ q) (Nat.le_refl _) ?_, rfl, q _ (I.hok.fresh (Nat.le_refl _))⟩
  exact ⟨Nat.le_trans (cutV_length xs lo hi) hz, _, 0, (r.drop (HT.sIx xs.length 0 lo)).take (HT.sIx xs.length xs.length hi - HT.sIx xs.length 0 lo), Heap.get?_push_size _ rfl⟩

/-! ### in, not in: flat items -/
noncomputable def flatV : V → Bool
  | .non => true
  | .bl _ => true
  | .int _ => true
  | .str _ => true
  | _ => false
/-- == of flat values -/
noncomputable def eqV : V → V → Bool
  | .non, .non => true
  | .bl a, .bl b => a == b
  | .bl a, .int b => (if a then 1 else 0) == b
  | .int a, .bl b => a == (if b then 1 else 0)
  | .int a, .int b => a == b
  | .str a, .str b => a == b
  | _, _ => false
theorem eqAt_V {A : Around} {s : Shared} {y x : V} {u v : Value} (ry : RelV y u) (rx : RelV x v) (fy : flatV y = true) (fx : flatV x = true) : SeqAt.EqAt A s u v (eqV y x) := by
  cases y with
  | non =>
    cases ry
    cases x with
    | non => cases rx; exact SeqAt.EqAt.same _
    | bl b => cases rx; exact SeqAt.EqAt.none_bool b
    | int b => obtain ⟨t, rfl⟩ := rx; exact SeqAt.EqAt.none_int b t
    | str b => obtain ⟨t, rfl⟩ := rx; exact SeqAt.EqAt.none_str b t
    | _ => exact absurd (show false = true from fx) Bool.false_ne_true
  | bl a =>
    cases ry
    cases x with
    | non => cases rx; exact SeqAt.EqAt.bool_none a
    | bl b => cases rx; exact SeqAt.EqAt.bool_bool a b
    | int b => obtain ⟨t, rfl⟩ := rx; exact SeqAt.EqAt.bool_int a b t
    | str b => obtain ⟨t, rfl⟩ := rx; exact SeqAt.EqAt.bool_str a b t
    | _ => exact absurd (show false = true from fx) Bool.false_ne_true
  | int a =>
    obtain ⟨t', rfl⟩ := ry
    cases x with
    | non => cases rx; exact SeqAt.EqAt.int_none a t'
    | bl b => cases rx; exact SeqAt.EqAt.int_bool a t' b
    | int b => obtain ⟨t, rfl⟩ := rx; exact SeqAt.EqAt.int_int a t' b t
    | str b => obtain ⟨t, rfl⟩ := rx; exact SeqAt.EqAt.int_str a t' b t
    | _ => exact absurd (show false = true from fx) Bool.false_ne_true
  | str a =>
    obtain ⟨t', rfl⟩ := ry
    cases x with
    | non => cases rx; exact SeqAt.EqAt.str_none a t'
    | bl b => cases rx; exact SeqAt.EqAt.str_bool a t' b
    | int b => obtain ⟨t, rfl⟩ := rx; exact SeqAt.EqAt.str_int a t' b t
    | str b => obtain ⟨t, rfl⟩ := rx; exact SeqAt.EqAt.str_str a t' b t
    | _ => exact absurd (show false = true from fx) Bool.false_ne_true
  | _ => exact absurd (show false = true from fy) Bool.false_ne_true
/-- the items' answers, read off the values (a value's own answer does not lean on its token) -/
noncomputable def eqU (x : V) (u : Value) : Bool := match u with
  | .none => eqV .non x
  | .bool b => eqV (.bl b) x
  | .int i _ => eqV (.int i) x
  | .str z _ => eqV (.str z) x
  | _ => false
theorem eqU_of {x y : V} {u : Value} (r : RelV y u) (f : flatV y = true) : eqU x u = eqV y x := by
  cases y with
  | non => cases r; rfl
  | bl b => cases r; rfl
  | int i => obtain ⟨t, rfl⟩ := r; rfl
  | str z => obtain ⟨t, rfl⟩ := r; rfl
  | _ => exact absurd (show false = true from f) Bool.false_ne_true
theorem any_eqU {x : V} : ∀ {xs : List V} {us : List Value}, Vals xs us → xs.all flatV = true → us.any (eqU x) = xs.any fun y => eqV y x
  | _, _, .nil, _ => rfl
  | y :: xs, u :: us, .cons r t, f => by
    rw [List.all_cons, Bool.and_eq_true] at f
    rw [List.any_cons, List.any_cons, eqU_of r f.1, any_eqU t f.2]
theorem mem_eqAt {A : Around} {s : Shared} {x : V} {v : Value} (rx : RelV x v) (fx : flatV x = true) : ∀ {xs : List V} {us : List Value}, Vals xs us → xs.all flatV = true → ∀ u ∈ us, SeqAt.EqAt A s u v (eqU x u)
  | _, _, .nil, _ => fun u hu => by cases hu
  | y :: xs, u :: us, .cons r t, f => fun u' hu => by
    rw [List.all_cons, Bool.and_eq_true] at f
    rcases List.mem_cons.mp hu with rfl | hu
    · rw [eqU_of r f.1]; exact eqAt_V r rx f.1 fx
    · exact mem_eqAt rx fx t f.2 u' hu
noncomputable def inV (x : V) (xs : List V) : Bool := xs.any fun y => eqV y x
/-- x in a list or tuple of flat items -/
noncomputable def rIn (K : PySem.W.Frag) (neg : Bool) : R2 := fun x y H Q => ∃ p xs, y = .ref p ∧ (SqL K H p xs ∨ SqT K H p xs) ∧ flatV x = true ∧ xs.all flatV = true ∧ Q (.bl (if neg then !inV x xs else inV x xs)) H
theorem op_in_seq : OpR X (compareOp .In) (rIn X.K false) := by
  intro pins s σ H x y v u Q I rx ry h
  obtain ⟨p, xs, rfl, hq, fx, fs, q⟩ := h
  cases ry
  rcases hq with hq | hq
  · obtain ⟨its, r, pl, hz⟩ := I.list hq
    refine SeqAt.in_listAt (eqU x) pl.isList (fun w hw => mem_eqAt rx fx r fs w (by simpa using hw)) ⟨.bl _, H, I, rfl, ?_⟩
    rw [show its.toArray.any (eqU x) = its.any (eqU x) by simp, any_eqU r fs]
    exact q
  · obtain ⟨its, r, pl, hz⟩ := I.tuple hq
    refine SeqAt.in_tupleAt (eqU x) pl (fun w hw => mem_eqAt rx fx r fs w (by simpa using hw)) ⟨.bl _, H, I, rfl, ?_⟩
    rw [show its.toArray.any (eqU x) = its.any (eqU x) by simp, any_eqU r fs]
    exact q
theorem op_notIn_seq : OpR X (compareOp .NotIn) (rIn X.K true) := by
  intro pins s σ H x y v u Q I rx ry h
  obtain ⟨p, xs, rfl, hq, fx, fs, q⟩ := h
  cases ry
  rcases hq with hq | hq
  · obtain ⟨its, r, pl, hz⟩ := I.list hq
    refine SeqAt.notIn_listAt (eqU x) pl.isList (fun w hw => mem_eqAt rx fx r fs w (by simpa using hw)) ⟨.bl _, H, I, rfl, ?_⟩
    rw [show its.toArray.any (eqU x) = its.any (eqU x) by simp, any_eqU r fs]
    exact q
  · obtain ⟨its, r, pl, hz⟩ := I.tuple hq
    refine SeqAt.notIn_tupleAt (eqU x) pl (fun w hw => mem_eqAt rx fx r fs w (by simpa using hw)) ⟨.bl _, H, I, rfl, ?_⟩
    rw [show its.toArray.any (eqU x) = its.any (eqU x) by simp, any_eqU r fs]
    exact q
theorem op_notIn_str : OpR X (compareOp .NotIn) (fun x y H Q => ∃ i j, x = .str i ∧ y = .str j ∧ Q (.bl (!(!(Builtin.Str.occurrences j i 0 j.length 1).isEmpty))) H) := by
  intro pins s σ H x y v u Q I rx ry h
  obtain ⟨i, j, rfl, rfl, q⟩ := h
  obtain ⟨t, rfl⟩ := rx
  obtain ⟨t', rfl⟩ := ry
  exact notIn_str ⟨.bl _, H, I, rfl, q⟩

/-! ### len, list(x), tuple(x) of any list or tuple that is read -/
theorem call_len_seq : CallR X (.builtin "len") (fun xs H Q => ∃ p ys, xs = [.ref p] ∧ (SqL X.K H p ys ∨ SqT X.K H p ys) ∧ Q (.int ys.length) H) := by
  intro pins s σ H xs us Q I r h
  obtain ⟨p, ys, rfl, hq, q⟩ := h
  obtain ⟨u, rfl, rx⟩ := vals1 r
  cases rx
  have hn := line63
  rcases hq with hq | hq
  · obtain ⟨its, r', pl, hz⟩ := I.list hq
    have hlen := r'.length
    exact Calls.call_len_list pl.isList (by simp only [List.size_toArray] <;> omega) ⟨.int ys.length, H, I.tok _, ⟨s.toks + 1, by rw [List.size_toArray, hlen]⟩, q⟩
  · obtain ⟨its, r', pl, hz⟩ := I.tuple hq
    have hlen := r'.length
    exact len_tuple pl (by simp only [List.size_toArray] <;> omega) ⟨.int ys.length, H, I.tok _, ⟨s.toks + 1, by rw [List.size_toArray, hlen]⟩, q⟩
theorem call_len_str : CallR X (.builtin "len") (fun xs H Q => ∃ z, xs = [.str z] ∧ z.length ≤ sizeLine ∧ Q (.int z.length) H) := by
  intro pins s σ H xs us Q I r h
  obtain ⟨z, rfl, hz, q⟩ := h
  obtain ⟨u, rfl, t, rfl⟩ := vals1 r
  have hn := line63
  exact len_str (by omega) ⟨.int z.length, H, I.tok _, ⟨_, rfl⟩, q⟩

/-! ### the call of a builtin's method: o.m(..) -/
/-- the value is of that builtin type -/
noncomputable def tyV (K : PySem.W.Frag) (T : String) (x : V) (H : Hp) : Prop := match x with
  | .str _ => T = "str"
  | .int _ => T = "int"
  | .ref p => (T = "list" ∧ ∃ xs, SqL K H p xs) ∨ (T = "tuple" ∧ ∃ o, K.lookup p = some o ∧ o.cls = .type "tuple" ∧ o.dict = none) ∨
      (T = "dict" ∧ ((∃ kvs, H p = some (.dK kvs)) ∨ ∃ kvs, H p = some (.dT kvs))) ∨ (T = "set" ∧ ∃ S n, H p = some (.set S n))
  | _ => False
theorem tyV_is {pins : List (Addr × Obj)} {σ : St} {H : Hp} {s : Shared} {T : String} {x : V} {v : Value} (I : Inv X pins σ H s) (r : RelV x v) (ty : tyV X.K T x H) :
    s.TypeIs v T ∧ ∀ a, v = .ref a → ∃ ob, s.heap.get? a = some ob ∧ ob.dict = none := by
  cases x with
  | str z =>
    obtain ⟨t, rfl⟩ := r
    cases (show T = "str" from ty)
    exact ⟨typeIs_str s z t, fun _ e => nomatch e⟩
  | int i =>
    obtain ⟨t, rfl⟩ := r
    cases (show T = "int" from ty)
    exact ⟨typeIs_int s i t, fun _ e => nomatch e⟩
  | ref p =>
    cases r
    rcases ty with ⟨rfl, xs, hq⟩ | ⟨rfl, o, hk, hc, hd⟩ | ⟨rfl, hk⟩ | ⟨rfl, S, n, hk⟩
    · obtain ⟨its, _, pl, _⟩ := I.list hq
      refine ⟨pl.isList.typeIs, fun a e => ?_⟩
      cases e
      obtain ⟨o, n, e, c, hd, _⟩ := pl
      exact ⟨o, e, hd⟩
    · refine ⟨⟨o, I.kIn p o hk, hc⟩, fun a e => ?_⟩
      cases e
      exact ⟨o, I.kIn _ o hk, hd⟩
    · have z : ∃ o, s.heap.get? p = some o ∧ o.ExactDict := by
        rcases hk with ⟨kvs, hk⟩ | ⟨kvs, hk⟩
        · obtain ⟨_, _, _, _, o, _, _, e, ex, _⟩ := I.hok p _ hk
          exact ⟨o, e, ex⟩
        · obtain ⟨_, _, _, _, o, _, _, e, ex, _⟩ := I.hok p _ hk
          exact ⟨o, e, ex⟩
      obtain ⟨o, e, ex⟩ := z
      refine ⟨⟨o, e, ex.1⟩, fun a e2 => ?_⟩
      cases e2
      exact ⟨o, e, ex.2.1⟩
    · obtain ⟨o, _, _, _, e, ex, _⟩ := I.hok p _ hk
      refine ⟨⟨o, e, ex.1⟩, fun a e2 => ?_⟩
      cases e2
      exact ⟨o, e, ex.2.1⟩
  | _ => exact False.elim ty
noncomputable def tBM0 (K : PySem.W.Frag) (T : String) (r : V → List V → Hp → VK → Prop) (to : TE) : TE := fun σ H Q => to σ H fun x H1 => tyV K T x H1 ∧ r x [] H1 Q
noncomputable def tBM (K : PySem.W.Frag) (T : String) (r : V → List V → Hp → VK → Prop) (to : TE) (t : TA) : TE := fun σ H Q => to σ H fun x H1 => tyV K T x H1 ∧ t σ H1 fun xs H2 => r x xs H2 Q
variable {o e : Expr} {es : List Expr} {to : TE} {t : TA} {name : Str} {apos cpos : Pos} {T id : String} {r : V → List V → Hp → VK → Prop}
theorem pe_bm0 (pa : PlainAttrs T) (slot : Slot T name id) (hty : typeOf (.builtin id) = pure (.type "method_descriptor")) (hm : MtR X id r) (ho : PE X o to)
    (hbase : attributeBase o name X.env (eval o X.env) = eval o X.env := by rfl) (hline : (apos.endLine == cpos.line) = true := by rfl) : PE X (.Call (.Attribute o name apos) [] [] cpos) (tBM0 X.K T r to) := by
  intro pins s σ H Q I h
  refine wpAny_Call_method0_late hbase hline (thn (ho pins s σ H _ I h) fun v s1 ⟨x, H1, I1, r1, ty, q1⟩ => ?_)
  obtain ⟨h1, h2⟩ := tyV_is I1 r1 ty
  exact ⟨T, id, pa, slot, hty, h1, h2, Calls.callWith_builtin rfl (PySem.evalArgs_none (hm pins s1 σ H1 x [] v [] Q I1 r1 .nil q1))⟩
theorem pe_bm (pa : PlainAttrs T) (slot : Slot T name id) (hty : typeOf (.builtin id) = pure (.type "method_descriptor")) (hm : MtR X id r) (ho : PE X o to) (ha : PA X (e :: es) t)
    (hbase : attributeBase o name X.env (eval o X.env) = eval o X.env := by rfl)
    (hfew : ((backTo cpos (starEach (e :: es) X.env)).all (fun x => !x.1) && (backToKw cpos (keywordEach [] X.env)).all (fun x => x.1.isSome)
      && decide ((e :: es).length + ([] : List Keyword).length + (if ([] : List Keyword).isEmpty then 0 else 1) < 30)) = true := by rfl)
    (hline : (apos.endLine == cpos.line) = true := by rfl) (hs : starEach (e :: es) X.env = (false, eval e X.env) :: starEach es X.env := by rfl) (hplain : (backTo cpos (starEach es X.env)).any (·.1) = false := by rfl) :
    PE X (.Call (.Attribute o name apos) (e :: es) [] cpos) (tBM X.K T r to t) := by
  intro pins s σ H Q I h
  refine wpAny_Call_method_late hbase hfew hline rfl (thn (ho pins s σ H _ I h) fun v s1 ⟨x, H1, I1, r1, ty, q1⟩ => ?_)
  obtain ⟨h1, h2⟩ := tyV_is I1 r1 ty
  refine ⟨T, id, pa, slot, hty, h1, h2, ?_⟩
  have hA := ha cpos pins s1 σ H1 _ I1 q1
  rw [hs] at hA ⊢
  refine Calls.callWith_builtin (by show (false || (backTo cpos (starEach es X.env)).any (·.1)) = false; rw [hplain] <;> rfl) (Calls.evalArgs_plain ?_)
  exact thn hA fun us s2 ⟨vs, H2, I2, r2, q2⟩ => hm pins s2 σ H2 x vs v us Q I2 r1 r2 q2
/- xs.append(e), list.index on a module's tuple .. are MtR facts of 06m -/
end
end L2

namespace L2
open PySem PySem.Spec PyProof.Rows

noncomputable def MtM (X : Cx) (id : String) (r : V → List V → Hp → VK → Prop) : Prop :=
  ∀ (pins : List (Addr × Obj)) (s : Shared) (σ : St) (H : Hp) (x : V) (xs : List V) (v : Value) (us : List Value) (Q : VK), Inv X pins σ H s → RelV x v → Vals xs us → r x xs H Q →
    wpAny (model X.prog X.w) X.A (call (.builtin id) (v :: us)) (EP X pins σ Q) X.xe s

/-! ### lists of values -/
theorem Vals.one : ∀ {x : V} {us : List Value}, Vals [x] us → ∃ u, us = [u] ∧ RelV x u
  | _, _, .cons r .nil => ⟨_, rfl, r⟩
theorem Vals.two : ∀ {x y : V} {us : List Value}, Vals [x, y] us → ∃ u v, us = [u, v] ∧ RelV x u ∧ RelV y v
  | _, _, _, .cons r (.cons q .nil) => ⟨_, _, rfl, r, q⟩
theorem Vals.zero : ∀ {us : List Value}, Vals [] us → us = []
  | _, .nil => rfl
theorem Vals.dropLast {xs : List V} {us : List Value} (h : Vals xs us) : Vals xs.dropLast us.dropLast := by
  induction h with
  | nil => exact .nil
  | cons r t ih =>
    cases t with
    | nil => exact .nil
    | cons q t' => exact .cons r ih
theorem Vals.rep {xs : List V} {us : List Value} (h : Vals xs us) : ∀ k : Nat, Vals (List.replicate k xs).flatten (List.replicate k us).flatten
  | 0 => .nil
  | k + 1 => by
    rw [List.replicate_succ, List.replicate_succ, List.flatten_cons, List.flatten_cons]
    exact Vals.append h (Vals.rep h k)
theorem erase_last {α : Type} (l : List α) : l.eraseIdx (l.length - 1) = l.dropLast := by
  induction l with
  | nil => rfl
  | cons a r ih =>
    cases r with
    | nil => rfl
    | cons b r =>
      have e : (a :: b :: r).length - 1 = ((b :: r).length - 1) + 1 := by
        have h1 : (a :: b :: r).length = r.length + 2 := rfl
        have h2 : (b :: r).length = r.length + 1 := rfl
        omega
      rw [e, List.eraseIdx_cons_succ, ih]
      all_goals rfl
theorem foldl_rep (its : List Value) : ∀ (k : Nat) (acc : List Value),
    List.foldl (fun x1 x2 => x1 ++ x2) acc.toArray (List.replicate k its.toArray) = (acc ++ (List.replicate k its).flatten).toArray
  | 0, acc => by simp
  | k + 1, acc => by
    have e : acc.toArray ++ its.toArray = (acc ++ its).toArray := by simp
    have e2 : (acc ++ its) ++ (List.replicate k its).flatten = acc ++ (List.replicate (k + 1) its).flatten := by
      rw [List.replicate_succ, List.flatten_cons, List.append_assoc]
    rw [← e2, ← foldl_rep its k (acc ++ its), ← e, List.replicate_succ, List.foldl_cons]

section
variable {X : Cx} {pins : List (Addr × Obj)} {σ : St} {H : Hp} {s : Shared} {l b : Addr} {xs ys zs : List V}

/-! ### the two steps: a tracked list is rewritten, a new list is laid -/
theorem Inv.lset {its its' : List Value} {n : Nat} {f : Array Value → Array Value} {t' : Nat} (I : Inv X pins σ H s) (hH : H l = some (.lst xs))
    (e : s.heap.get? l = some { cls := .type "list", data := .seq its.toArray n }) (hf : f its.toArray = its'.toArray) (hv : Vals ys its') (hz : ys.length ≤ sizeLine) :
    Inv X pins σ (upd H l (.lst ys)) { s with heap := s.heap.update l (Obj.mapSeq f), toks := t' } := by
  have q := PySem.IsL.update e f
  rw [hf] at q
  refine I.write (x := l) (e := l) (by rw [hH]; exact trivial) (.inl rfl) (fun b' u hb hu => (Heap.get?_update_other s.heap (Obj.mapSeq f) (Ne.symm hb)).trans hu) ⟨_, q⟩ ?_
  exact ⟨hz, its', _, hv, q⟩
theorem Inv.lnew {its : List Value} {t' : Nat} (I : Inv X pins σ H s) (hv : Vals ys its) (hz : ys.length ≤ sizeLine) :
    Inv X pins σ (upd H s.heap.objs.size (.lst ys)) { s with heap := s.heap.push { cls := .type "list", data := .seq its.toArray }, toks := t' } :=
  I.laid (fun _ _ q => Heap.get?_push_of_some _ q) (Nat.le_refl _) ⟨hz, its, 0, hv, Heap.get?_push_size _ rfl⟩
theorem Inv.fresh (I : Inv X pins σ H s) : H s.heap.objs.size = none := I.hok.fresh (Nat.le_refl _)
theorem Inv.lstM (I : Inv X pins σ H s) (hH : H l = some (.lst xs)) : xs.length ≤ sizeLine ∧ ∃ (its : List Value) (n : Nat), Vals xs its ∧ xs.length = its.length ∧ s.heap.get? l = some { cls := .type "list", data := .seq its.toArray n } := by
  obtain ⟨z, its, n, r, e⟩ := I.hok l _ hH
  exact ⟨z, its, n, r, r.length, e⟩

theorem notLongL {n : Nat} (h : n ≤ sizeLine) : Builtin.List.listTooLong n = false := by
  unfold Builtin.List.listTooLong
  exact decide_eq_false (by omega)
end

section
variable {X : Cx}

/-! ### methods -/
noncomputable def rAppend : V → List V → Hp → VK → Prop := fun x vs H Q => ∃ l xs y, x = .ref l ∧ vs = [y] ∧ H l = some (.lst xs) ∧ xs.length < sizeLine ∧ Q .non (upd H l (.lst (xs ++ [y])))
theorem mt_append : MtM X "list.append" rAppend := by
  intro pins s σ H x vs v us Q I rx rv h
  obtain ⟨l, xs, y, rfl, rfl, hH, hz, q⟩ := h
  cases rx
  obtain ⟨u, rfl, ru⟩ := rv.one
  obtain ⟨z, its, n, r, hl, e⟩ := I.lstM hH
  refine call_meets F.slot_list_append ⟨_, e, rfl⟩ F.entry_list_append (F.args_list_append_2 _ _) (PySem.list_append l its.toArray n u (by rw [List.size_toArray]; omega)) ⟨e, ?_⟩
  refine ⟨.non, _, I.lset (its' := its ++ [u]) hH e (by simp) (r.append (.cons ru .nil)) ?_, rfl, q⟩
  rw [List.length_append, List.length_singleton]
  omega

noncomputable def rExtend : V → List V → Hp → VK → Prop := fun x vs H Q => ∃ l b xs zs, x = .ref l ∧ vs = [.ref b] ∧ H l = some (.lst xs) ∧ H b = some (.lst zs) ∧ xs.length + zs.length ≤ sizeLine ∧ Q .non (upd H l (.lst (xs ++ zs)))
theorem mt_extend : MtM X "list.extend" rExtend := by
  intro pins s σ H x vs v us Q I rx rv h
  obtain ⟨l, b, xs, zs, rfl, rfl, hH, hB, hz, q⟩ := h
  cases rx
  obtain ⟨u, rfl, ru⟩ := rv.one
  cases ru
  obtain ⟨z, its, n, r, hl, e⟩ := I.lstM hH
  obtain ⟨z2, its2, n2, r2, hl2, e2⟩ := I.lstM hB
  have hsz : its.toArray.size + its2.toArray.size ≤ sizeLine := by rw [List.size_toArray, List.size_toArray]; omega
  have hlong : ¬ (!its.toArray.isEmpty && Builtin.List.listTooLong (its.toArray.size + its2.toArray.size)) = true := by
    rw [notLongL hsz, Bool.and_false]
    exact Bool.false_ne_true
  refine call_meets F.slot_list_extend ⟨_, e, rfl⟩ F.entry_list_extend (F.args_list_extend_2 _ _)
    (AutoSeq1.list_extend_list_list_0 l its.toArray n b its2.toArray n2 hlong (by rw [List.size_toArray]; omega) (by omega)) ⟨e, e2, ?_⟩
  refine ⟨.non, _, I.lset (its' := its ++ its2) hH e (by simp) (r.append r2) ?_, rfl, q⟩
  rw [List.length_append]
  omega

noncomputable def rPop : V → List V → Hp → VK → Prop := fun x vs H Q => ∃ l xs y, x = .ref l ∧ vs = [] ∧ H l = some (.lst xs) ∧ xs[xs.length - 1]? = some y ∧ Q y (upd H l (.lst xs.dropLast))
theorem mt_pop : MtM X "list.pop" rPop := by
  intro pins s σ H x vs v us Q I rx rv h
  obtain ⟨l, xs, y, rfl, rfl, hH, hy, q⟩ := h
  cases rx
  have hus := rv.zero
  subst hus
  obtain ⟨z, its, n, r, hl, e⟩ := I.lstM hH
  obtain ⟨u, hu, ru⟩ := r.get hy
  have hy' : its.toArray[its.toArray.size - 1]? = some u := by
    show its.toArray[its.length - 1]? = some u
    rw [← Array.getElem?_toList, ← hl]
    exact hu
  refine call_meets F.slot_list_pop ⟨_, e, rfl⟩ F.entry_list_pop (F.args_list_pop_1 _) (MeetsSeq.list_pop_last l its.toArray n u hy' (by rw [List.size_toArray]; omega)) ⟨e, ?_⟩
  refine ⟨y, _, I.lset (its' := its.dropLast) hH e ?_ r.dropLast ?_, ru, q⟩
  · show its.toArray.eraseIdxIfInBounds (its.toArray.size - 1) = its.dropLast.toArray
    rw [List.size_toArray, List.eraseIdxIfInBounds_toArray, erase_last]
  · rw [List.length_dropLast]
    omega




/-! ### list + list, list += list, list * int -/
noncomputable def rCat : R2 := fun x y H Q => ∃ l b xs zs, x = .ref l ∧ y = .ref b ∧ H l = some (.lst xs) ∧ H b = some (.lst zs) ∧ xs.length + zs.length ≤ sizeLine ∧ ∀ p, H p = none → Q (.ref p) (upd H p (.lst (xs ++ zs)))
theorem op_cat : OpR X (binaryOp .Add) rCat := by
  intro pins s σ H x y v u Q I rx ry h
  obtain ⟨l, b, xs, zs, rfl, rfl, hH, hB, hz, q⟩ := h
  cases rx
  cases ry
  obtain ⟨z, its, n, r, hl, e⟩ := I.lstM hH
  obtain ⟨z2, its2, n2, r2, hl2, e2⟩ := I.lstM hB
  refine PySem.P.add_list e e2 ?_ (by rw [List.size_toArray, List.size_toArray]; omega)
  have ea : its.toArray ++ its2.toArray = (its ++ its2).toArray := by simp
  rw [ea]
  exact ⟨.ref _, _, I.lnew (t' := s.toks) (r.append r2) (by rw [List.length_append]; omega), rfl, q _ I.fresh⟩
/-- a list times an int (a negative one is nothing) -/
noncomputable def rRep : R2 := fun x y H Q => ∃ l k xs, x = .ref l ∧ y = .int k ∧ H l = some (.lst xs) ∧ -(2 ^ 63) ≤ k ∧ k < 2 ^ 63 ∧ xs.length * k.toNat ≤ sizeLine ∧
  ∀ p, H p = none → Q (.ref p) (upd H p (.lst (List.replicate k.toNat xs).flatten))
theorem len_rep {α : Type} (xs : List α) (k : Nat) : (List.replicate k xs).flatten.length = k * xs.length := by
  induction k with
  | zero => simp
  | succ k ih => rw [List.replicate_succ, List.flatten_cons, List.length_append, ih, Nat.succ_mul, Nat.add_comm]
theorem op_rep : OpR X (binaryOp .Mult) rRep := by
  intro pins s σ H x y v u Q I rx ry h
  obtain ⟨l, k, xs, rfl, rfl, hH, h1, h2, hz, q⟩ := h
  cases rx
  obtain ⟨t, rfl⟩ := ry
  obtain ⟨z, its, n, r, hl, e⟩ := I.lstM hH
  have hlen : its.toArray.size * k.toNat ≤ sizeLine := by rw [List.size_toArray, ← hl]; exact hz
  have hcap : ¬ its.toArray.size * k.toNat > (2 ^ 63 - 1) / 8 := by
    have : (sizeLine : Nat) ≤ (2 ^ 63 - 1) / 8 := by decide
    omega
  have hfit : ¬ (!Builtin.List.listFitsIndex k) = true := by
    rw [fitsIndex_both h1 h2]
    exact Bool.false_ne_true
  have hlong : ¬ Builtin.List.listTooLong (its.toArray.size * k.toNat) = true := by
    rw [notLongL hlen]
    exact Bool.false_ne_true
  have hnew : List.foldl (fun x1 x2 => x1 ++ x2) #[] (List.replicate (if its.toArray.isEmpty = true then 0 else k.toNat) its.toArray) = (List.replicate k.toNat its).flatten.toArray := by
    have f0 : ∀ m : Nat, List.foldl (fun x1 x2 => x1 ++ x2) #[] (List.replicate m its.toArray) = (List.replicate m its).flatten.toArray := fun m => by
      have := foldl_rep its m []
      rw [List.nil_append] at this
      exact this
    rw [f0]
    cases its with
    | nil => simp
    | cons a r' => rw [if_neg (by simp)]
  refine wpAny_binaryOp_repeat_ref (T := "list") (U := "int") (by decide) ⟨_, e, rfl⟩ (fun s' => typeIs_int s' k t) noFill_list_mul F.fills_int_mul F.slot_int_rmul repeat_list F.slot_int_index.lookup
    (call_meets F.slot_int_rmul (typeIs_int s k t) F.entry_int_rmul (F.args_int_rmul_2 _ _) (int___rmul___int_list k t l its.toArray n)
      ⟨e, rfl, ⟨_, e, rfl⟩, call_meets F.slot_list_mul ⟨_, e, rfl⟩ F.entry_list_mul (F.args_list_mul_2 _ _) (AutoListH.list___mul___list_int_3 l its.toArray n k t hfit hcap hlong) ⟨e, ?_⟩⟩)
  rw [hnew]
  exact ⟨.ref _, _, I.lnew (t' := s.toks) (r.rep k.toNat) (by rw [len_rep, Nat.mul_comm]; exact hz), rfl, q _ I.fresh⟩

/-! ### del xs[i] -/
end

/-! ### xs[a:b] = ys -/
section
variable {prog : Program} {w : World} {A : Around} {E : Value → Shared → Prop} {s : Shared}
set_option maxRecDepth 100000 in
end

section
variable {X : Cx}
end
end L2

namespace Att
open PySem PySem.W PySem.Calls PyProof.Rows

/-! ### the script -/
theorem ints_of_wellAll {P : Params} {h : Heap} : ∀ (ns : List Int) (vs : List Value), WellAll P h vs (ns.map WData.int) → IntsAre vs ns := by
  intro ns
  induction ns with
  | nil =>
    intro vs w
    rw [List.map_nil] at w
    cases w
    exact .nil
  | cons n ns ih =>
    intro vs w
    rw [List.map_cons] at w
    cases w with
    | cons a b =>
      cases a
      exact .cons _ _ (ih _ b)

theorem script_of {l : OpenLaw} {n : Nat} (hn : l.most = some n) {P : Params} {h : Heap} {args : List WData} {vals : List Value}
    (hpre : l.row.toRowW.claim.pre args = true) (hwl : WellAll P h vals args) :
    ∃ a vs ns, vals = [Value.ref a] ∧ args = [WData.list (ns.map WData.int)] ∧ h.get? a = some { cls := .type "list", data := .seq vs.toArray } ∧ IntsAre vs ns ∧ ns.length ≤ n := by
  have hsh : WShape.hasAll [] args [.list .int] = true := (pre_splitW hpre).1
  have hc : l.pre.holds [] { args := args } = true := (pre_splitW hpre).2
  obtain ⟨d, r, rfl, h1, h2⟩ := hasAllW_cons hsh
  obtain rfl := hasAllW_nil h2
  obtain ⟨xs, rfl, h3⟩ := hasW_list h1
  obtain ⟨ns, rfl⟩ := items_int h3
  have hlen : ns.length ≤ n := by
    unfold OpenLaw.pre at hc
    have h4 : (WTm.not (.lt (.lit (.int (n : Int))) (.len (.arg 0)))).holds [] { args := [.list (ns.map .int)] } = true := by
      have h4 := (holds_andW hc).1
      rw [hn] at h4
      exact h4
    have h5 := condW_of h4 (w_not (w_lt w_lit (w_len_list (w_arg rfl))))
    rw [List.length_map] at h5
    refine Nat.le_of_not_lt fun q => ?_
    have q' : (n : Int) < ((ns.length : Nat) : Int) := by omega
    first
      | (rw [decide_eq_true q'] at h5; exact absurd h5 (by decide))
      | (simp at h5; omega)
  cases hwl with
  | cons w1 w2 =>
    cases w2
    cases w1 with
    | list ho hall => exact ⟨_, _, ns, rfl, rfl, ho, ints_of_wellAll ns _ hall, hlen⟩

theorem post_true (l : OpenLaw) (args : List WData) : l.row.toRowW.claim.post args (.bool true) args = true :=
  postW_of (r := l.row.toRowW) (X := (true == true))
    (show WShape.has [] (.bool true) .bool = true by first | rfl | decide | simp [WShape.has, WShape.arms, WShape.armsAll])
    (show (WTm.eq .res (.lit (.bool true))).value [] { args := args, res := some (.bool true), after := args } = some (.bool (true == true)) from w_eq_bool (w_res rfl) w_lit) rfl

/-! ### the attachment: holds_open's last premise (the goal 'hc' behind k_head) from a wpAny of the law's body -/

/-- the same from a codeAny of the CALL (for a layer whose function contracts speak of calls) -/
theorem attach_call {l : OpenLaw} {n : Nat} {q : Program} {loose : List Str} {XP : (Str → Option Value) → Heap → Prop} {YP : World → Heap → Prop} {d : DefRec}
    (hn : l.most = some n) (hdf : d.params.defaults = [])
    (call : ∀ (w : World) (s₀ s₁ : Shared) (mg mb : Str → Option Value) (fa : Addr) (o : Obj) (pm cd doc : Value) (a : Addr) (vs : List Value) (ns : List Int),
      Ground q loose [] XP w s₀ mg mb s₁.heap → YP w s₁.heap →
      s₁.heap.get? fa = some o → o.data = .func (docDef d.name d.params d.body d.scope pm cd doc) → s₁.heap.CodeRec cd d.name → mg d.name = some (.ref fa) →
      s₁.heap.get? a = some { cls := .type "list", data := .seq vs.toArray } → IntsAre vs ns → ns.length ≤ n → s₁.gens = #[] →
      codeAny (model l.prog w) callerA (.call (.ref fa) ⟨[.ref a], []⟩) (fun r s' => r = .ok (.ret (.bool true)) ∧ OldK s₁.heap s'.heap ∧ s'.os = s₁.os ∧ AllBare s'.gens) s₁) :
    WalkO q loose XP YP l.row.toRowW d [] (fun f vs => PySem.call f vs) := by
  intro w s₀ s₁ mg mb G Y fa o pm cd doc dV kV ho hd hcd hD hmg hg args vals as hpre hlay hrd hwl hlo
  obtain rfl : dV = .none := Dflts.none hD hdf
  obtain rfl : kV = .none := Dflts.noKw hD
  obtain ⟨a, vs, ns, rfl, rfl, hobj, hints, hlen⟩ := script_of hn hpre hwl
  refine enter_call (codeAny_mono (call w s₀ s₁ mg mb fa o pm cd doc a vs ns G Y ho (fd_plain hd) hcd hmg hobj hints hlen hg) fun r s' hq => ?_)
  obtain ⟨rfl, h2, h3, h4⟩ := hq
  exact ⟨.inl ⟨.bool true, .bool true, [], rfl, fun _ => rfl, .bool true, post_true l _, fun _ => ⟨List.Pairwise.nil, fun _ hm => (nomatch hm)⟩⟩, h2, h3, h4⟩


/-! ### rules over ANY heap (no ledger) from facts about the written part K: the library's own take a ledger (News) for what they write -/
section
variable {prog : Program} {w : World} {A : Around} {E : Value → Shared → Prop} {s : Shared} {K : Frag}





/-! the whole heap as the ledger: makes every rule that writes through a ledger a rule over any heap -/

end
end Att

namespace L2
open PySem PySem.Spec PyProof.Rows

theorem vals_ints : ∀ {vs : List Value} {ns : List Int}, IntsAre vs ns → Vals (ns.map V.int) vs
  | _, _, .nil => .nil
  | _, _, .cons n t h => .cons ⟨t, rfl⟩ (vals_ints h)

/-- nothing is tracked but the script, known to the object (or it is an object of the module) -/
noncomputable def Only (H : Hp) : Prop := ∀ b, H b = none ∨ ∃ o xs, H b = some (.frz o (.lst xs))

/-- THE HEAD: the law's promise, at the heap behind the top. F, the promise of the law's def, may use that base is part of the heap (so K.In base, base.Ns mainGlobals mg stand in Mod) -/
theorem law_call {P : Program} {w : World} {K : PySem.W.Frag} {mg mb : Str → Option Value} {CX : CXT} {k : Nat} {fa a : Addr} {fd : FuncData} {x : Str} {sp : Sp} {s₁ : Shared} {vs : List Value} {ns : List Int}
    (KX : K.In s₁.heap) (hns : s₁.heap.Ns mainGlobals mg) (hb : s₁.heap.Ns builtinsNs mb) (hbb : ∀ x : Str, x ≠ "__name__" → mb x = bootBuiltins x) (hlim : s₁.heap.NoLimit) (hg : s₁.gens = #[])
    (ha : s₁.heap.get? a = some { cls := .type "list", data := .seq vs.toArray }) (hi : IntsAre vs ns) (hl : ns.length ≤ sizeLine) (hr : Room k callerA)
    (F : ∀ base : Heap, K.In base → base.Ns mainGlobals mg → FnOk P w K mg base CX k fa fd [x] sp) (hbind : ∀ (s : Shared) (u : Value), BindsTo s fd ⟨[u], []⟩ [(x, u)])
    (hsp : ∀ H : Hp, Only H → SqL K H a (ns.map V.int) → sp [.ref a] H (fun v _ => v = .bl true) fun _ _ _ => False)
    (hCX : ∀ H e s', CX [] H s₁ (fun _ _ _ => False) e s' → False) :
    codeAny (model P w) callerA (.call (.ref fa) ⟨[.ref a], []⟩) (fun r s' => r = .ok (.ret (.bool true)) ∧ OldK s₁.heap s'.heap ∧ s'.os = s₁.os ∧ AllBare s'.gens) s₁ := by
  have rv := vals_ints hi
  have lenV := hi.length
  -- from an abstract heap in which nothing but the script may be tracked
  have core : ∀ H : Hp, Only H → SqL K H a (ns.map V.int) → HOk P w H s₁.heap → (∀ b, H b ≠ none → b = a) → (H a ≠ none → K.lookup a = none) →
      codeAny (model P w) callerA (.call (.ref fa) ⟨[.ref a], []⟩) (fun r s' => r = .ok (.ret (.bool true)) ∧ OldK s₁.heap s'.heap ∧ s'.os = s₁.os ∧ AllBare s'.gens) s₁ := by
    intro H hO hS hok hA hK
    have base_of : ∀ {b : Addr} {o : Obj}, s₁.heap.get? b = some o → H b = none → (hidT s₁.heap H).get? b = some o := fun e n => hidT_get e n
    have noA : ∀ {b : Addr} {o : Obj} {es : Array DictEntry} {ep : Nat}, s₁.heap.get? b = some o → o.data = .dict es ep → H b = none := fun {b o es ep} e d => by
      cases q : H b with
      | none => rfl
      | some u =>
        have e' : b = a := hA b (by rw [q]; simp)
        subst e'
        rw [ha] at e; cases e
        have d' : Data.seq vs.toArray _ = Data.dict es ep := d
        cases d'
    have nsK : ∀ {b : Addr} {m : Str → Option Value}, s₁.heap.Ns b m → (hidT s₁.heap H).Ns b m := fun {b m} ⟨o, es, ep, e, d, r⟩ => ⟨o, es, ep, base_of e (noA e d), d, r⟩
    have hKb : K.In (hidT s₁.heap H) := fun b o e => base_of (KX b o e) (by
      cases q : H b with
      | none => rfl
      | some u =>
        have e' : b = a := hA b (by rw [q]; simp)
        subst e'
        rw [hK (by rw [q]; simp)] at e; cases e)
    have hM : Mod K mg (hidT s₁.heap H) := ⟨hKb, nsK hns, ⟨mb, nsK hb, hbb⟩, let ⟨mc, h1, h2⟩ := hlim; ⟨mc, nsK h1, h2⟩⟩
    have e0 : Env0 P w K mg (hidT s₁.heap H) callerA [] s₁ H := ⟨rfl, hM, fun b o e => of_hidT e, Nat.le_of_eq (hidT_size _ _), trivial, fun b hb => absurd (show b ∈ ([] : List Addr) from hb) (by simp), hok, .of_eq hg⟩
    refine codeAny_mono ((F _ hKb (nsK hns)).run callerA [] s₁ H ⟨[.ref a], []⟩ [.ref a] [.ref a] _ _ hr e0 (hbind s₁ (.ref a)) (.cons rfl .nil) (hsp H hO hS)) fun r s' h => ?_
    cases r with
    | error e => exact (hCX H e s' h).elim
    | ok fl =>
      cases fl with
      | next => exact False.elim h
      | brk => exact False.elim h
      | cont => exact False.elim h
      | ret u =>
        obtain ⟨v, H', os, bare, un, hok', r', q⟩ := h
        have q' : v = .bl true := q
        subst q'
        obtain rfl : u = Value.bool true := r'
        refine ⟨rfl, OldK.of_keep fun b o e => ?_, os, bare⟩
        cases q : H b with
        | none => exact un.keep b o e q (by intro z; exact absurd (show b ∈ ([] : List Addr) from z) (by simp)) (by simp)
        | some u =>
          rcases hO b with z | ⟨ob, xs, z⟩
          · rw [q] at z; cases z
          · have z2 := un.frzs b ob _ z
            obtain ⟨e1, _⟩ := hok b _ z
            obtain ⟨e2, _⟩ := hok' b _ z2
            rw [e] at e1; cases e1
            exact e2
  cases hk : K.lookup a with
  | some o =>
    -- the script is one of the module's own objects
    have e := KX a o hk
    rw [ha] at e
    cases e
    refine core (fun _ => none) (fun _ => .inl rfl) (.inr ⟨_, vs.toArray, _, hk, rfl, rfl, rfl, by rw [List.size_toArray, lenV]; exact hl, by simpa using rv⟩) (fun b u z => by have z' : (none : Option HO) = some u := z; cases z') (fun b z => absurd rfl z) fun z => absurd rfl z
  | none =>
    refine core (fun b => if b = a then some (.frz { cls := .type "list", data := .seq vs.toArray } (.lst (ns.map V.int))) else none) (fun b => ?_) (.inl (.inr ⟨{ cls := .type "list", data := .seq vs.toArray }, if_pos rfl⟩)) (fun b u z => ?_) (fun b z => ?_) fun _ => hk
    · by_cases hb : b = a
      · exact .inr ⟨_, _, if_pos hb⟩
      · exact .inl (if_neg hb)
    · by_cases hb : b = a
      · have z' := (if_pos hb).symm.trans z
        cases z'
        subst hb
        exact ⟨ha, by rw [List.length_map]; exact hl, vs, _, rv, ha⟩
      · have z' := (if_neg hb).symm.trans z
        cases z'
    · by_cases hb : b = a
      · exact hb
      · exact absurd (if_neg hb) z
end L2

namespace L2
open PySem PySem.Spec PyProof.Rows

noncomputable abbrev KOf {K : PySem.W.Frag} {h : Heap} (_ : K.In h) : PySem.W.Frag := K

/-- the goal that k_head leaves (case hc), from the law's promise. F gives the function object fd (K's own) once, then the promise over every base -/
theorem walk_of {l : PySem.W.OpenLaw} {n k : Nat} {q : Program} {loose : List Str} {XP : (Str → Option Value) → Heap → Prop} {YP : World → Heap → Prop} {d : DefRec} {K : Params → PySem.W.Frag} {CX : World → CXT} {sp : World → Sp} {x : Str}
    (hn : l.most = some n) (hn2 : n ≤ sizeLine) (hdf : d.params.defaults = []) (hr : Room k callerA)
    (hY : ∀ (w : World) (h : Heap), YP w h → (K w.params).In h)
    (F : ∀ (w : World) (mg : Str → Option Value) (fa : Addr) (h : Heap), (K w.params).In h → h.Ns mainGlobals mg → mg d.name = some (.ref fa) →
      ∃ fd : FuncData, (∀ (s : Shared) (u : Value), BindsTo s fd ⟨[u], []⟩ [(x, u)]) ∧
        ∀ base : Heap, (K w.params).In base → base.Ns mainGlobals mg → FnOk l.prog w (K w.params) mg base (CX w) k fa fd [x] (sp w))
    (hsp : ∀ (w : World) (H : Hp) (a : Addr) (ns : List Int), ns.length ≤ n → Only H → SqL (K w.params) H a (ns.map V.int) → sp w [.ref a] H (fun v _ => v = .bl true) fun _ _ _ => False)
    (hCX : ∀ (w : World) (H : Hp) (s : Shared) (e : Value) (s' : Shared), CX w [] H s (fun _ _ _ => False) e s' → False) :
    PySem.W.WalkO q loose XP YP l.row.toRowW d [] (fun f vs => PySem.call f vs) := by
  refine Att.attach_call hn hdf fun w s₀ s₁ mg mb fa o pm cd doc a vs ns G Y ho hd hcd hmg hobj hints hlen hg => ?_
  have KX := hY w _ Y
  obtain ⟨fd, hb, hF⟩ := F w mg fa _ KX G.T.g hmg
  exact law_call KX G.T.g G.T.b G.T.builtins G.T.nolimit hg hobj hints (Nat.le_trans hlen hn2) hr hF hb (fun H hO hS => hsp w H a ns hlen hO hS) fun H e s' => hCX w H s₁ e s'
end L2

/- THE LAST THEOREM (shape; LID, My.* are yours):
   My.Adr: a structure of the addresses that your layer names (classes, functions); My.Txt K t: a structure (Prop) of the equations over K;
   My.txt_mk : {K} {implicit addresses ..} (e1 : nsIn K mainGlobals "law" = some (some (.ref f))) (e2 : K.lookup f = some ⟨oc, od, .func (fnOf "law" "law" params body scope dV kV doc pm an cdv ct), sl⟩) (e3 : codeIn K cdv "law" = true) .. : ∃ t, My.Txt K t

set_option maxRecDepth 100000 in
set_option maxHeartbeats 0 in
theorem PySem.Challenge.cw_LID_holds : PySem.Challenge.rw_LID.Holds := by
  w_on; o_law; k_head; (case hw => w_witness2)
  k_fill
  refine L2.walk_of (l := PySem.Challenge.rw_LID) (n := 63) (k := 40) (x := "script") (CX := fun w => ..) (sp := fun _ => My.sp_law) rfl (by decide) rfl ⟨rfl, by decide, by decide⟩ (fun w h Y => PySem.W.kIn_of Y) ?F ?S ?C
  case F =>
    intro w mg fa h KX G hmg
    have T : ∃ t, My.Txt (L2.KOf KX) t := by
      dsimp only [L2.KOf]                          -- K must stand as «<heap const> w.params» for k_is
      refine' My.txt_mk ?e1 ?e2 ?e3 ..
      (case e1 => PySem.W.k_is)                    -- in the order: a name -> its address -> its object -> its parts
      (case e2 => PySem.W.k_is)
      ..
    obtain ⟨t, T⟩ := T
    have e0 := hmg.symm.trans (PySem.W.mg_of KX G T.law)
    cases e0                                       -- fa is the law's own address
    exact ⟨_, fun s u => .of_eq rfl, fun base kb nb => My.law_fn T kb nb⟩     -- if «.of_eq rfl» comes too early: refine' ⟨_, ?b, fun base kb nb => My.law_fn T kb nb⟩; exact fun s u => .of_eq rfl
  case S => exact fun w H a ns hl hO hS => ..
  case C => exact ..
(the tactic k_is has no namespace: write k_is) -/

/-! SHORT WORDS over the layer: a def of the text, its body, what a loop and a test want. -/
namespace L2
open PySem PySem.Spec PyProof.Rows

/-! ### the text by places -/
/-- the j-th statement of a class's body -/
noncomputable def inClass (s : Stmt) (j : Nat) : Stmt := match s with
  | .ClassDef _ _ _ body _ _ _ _ _ _ _ => body.getD j (.Pass ⟨0, 0, 0, 0⟩)
  | _ => .Pass ⟨0, 0, 0, 0⟩
noncomputable def defArgs (s : Stmt) : Arguments := match s with
  | .FunctionDef _ a _ _ _ _ _ _ _ _ => a
  | _ => { posonlyargs := [], args := [], vararg := none, kwonlyargs := [], kw_defaults := [], kwarg := none, defaults := [] }
noncomputable def defBody (s : Stmt) : List Stmt := match s with
  | .FunctionDef _ _ b _ _ _ _ _ _ _ => b
  | _ => []
noncomputable def defScope (s : Stmt) : Scope := match s with
  | .FunctionDef _ _ _ _ _ _ sc _ _ _ => sc
  | _ => { kind := .function, names := [], isGenerator := false, isCoroutine := false }

/-! ### no exception leaves a def -/

/-! ### a def (or method) of the text as it stands behind the top -/
structure Fun (K : PySem.W.Frag) (x qual : Str) (st : Stmt) (f : Addr) (fd : FuncData) : Prop where
  ex : ∃ (oc : Value) (od : Option Addr) (kV doc pm : Value) (an : Option Addr) (cdv ct : Value) (osl : Array (Option Value)),
    fd = PySem.W.fnOf x qual (defArgs st) (defBody st) (defScope st) .none kV doc pm an cdv ct ∧ K.lookup f = some ⟨oc, od, .func fd, osl⟩ ∧ PySem.W.codeIn K cdv qual = true
  kp : PySem.W.keepIn K (.ref f) = true
section
variable {P : Program} {w : World} {K : PySem.W.Frag} {mg : Str → Option Value} {base : Heap}
/-- how its arguments bind (no defaults): h is «fun _ _ _ _ _ _ us hl => match us, hl with | [_, _], _ => rfl», one _ a parameter -/
theorem Fun.binds {x qual : Str} {st : Stmt} {f : Addr} {fd : FuncData} {ps : List Str} (F : Fun K x qual st f fd)
    (h : ∀ (kV doc pm : Value) (an : Option Addr) (cdv ct : Value) (us : List Value), us.length = ps.length → bindArgs (PySem.W.fnOf x qual (defArgs st) (defBody st) (defScope st) .none kV doc pm an cdv ct) ⟨us, []⟩ = pure (ps.zip us)) : Binds K fd ps [] := by
  obtain ⟨oc, od, kV, doc, pm, an, cdv, ct, osl, rfl, lk, hcd⟩ := F.ex
  exact .all (h kV doc pm an cdv ct)
theorem fun_mk {x qual : Str} {st : Stmt} {f : Addr} {oc : Value} {od an : Option Addr} {osl : Array (Option Value)} {kV doc pm cdv ct : Value} (l : K.lookup f = some ⟨oc, od, .func (PySem.W.fnOf x qual (defArgs st) (defBody st) (defScope st) .none kV doc pm an cdv ct), osl⟩)
    (c : PySem.W.codeIn K cdv qual = true) (k : PySem.W.keepIn K (.ref f) = true) : Fun K x qual st f (PySem.W.fnOf x qual (defArgs st) (defBody st) (defScope st) .none kV doc pm an cdv ct) := ⟨⟨oc, od, kV, doc, pm, an, cdv, ct, osl, rfl, l, c⟩, k⟩
end

/-! ### expressions in short: the name that stands in the i-th slot -/
section
variable {X : Cx}
theorem pv (i : Nat) {x : Str} {pos : Pos} (hN : X.N[i]? = some x := by rfl) (hv : Vis X.env.scope x := by first | exact Or.inl rfl | exact Or.inr (Or.inl rfl) | exact Or.inr (Or.inr rfl)) (hd : (x == ("__debug__" : Str)) = false := by decide)
    (hcd : (x == ("__classdict__" : Str)) = false := by decide) : PE X (.Name x pos) (tVar i) := pe_var hN hv hd hcd
end

/-! ### tests -/
theorem iteF {A B : Prop} (h : B) : if false = true then A else B := by
  rw [if_neg Bool.false_ne_true]
  exact h
theorem iteT {A B : Prop} (h : A) : if true = true then A else B := by
  rw [if_pos rfl]
  exact h
theorem ite2 {c A B : Prop} [Decidable c] (h1 : c → A) (h2 : ¬ c → B) : if c then A else B := by
  by_cases h : c
  · rw [if_pos h]
    exact h1 h
  · rw [if_neg h]
    exact h2 h

/-! ### heaps -/
/-- all that was tracked is as it was -/
noncomputable def Same (H H' : Hp) : Prop := ∀ b o, H b = some o → H' b = some o
theorem Same.refl (H : Hp) : Same H H := fun _ _ h => h
theorem Same.trans {H H1 H2 : Hp} (a : Same H H1) (b : Same H1 H2) : Same H H2 := fun c o h => b c o (a c o h)
theorem Same.free {H H' : Hp} (e : Same H H') {l : Addr} (h : H' l = Option.none) : H l = Option.none := by
  cases q : H l with
  | none => rfl
  | some o =>
    rw [e l o q] at h
    cases h
theorem Same.seq {K : PySem.W.Frag} {H H' : Hp} {a : Addr} {xs : List V} (e : Same H H') (h : SqL K H a xs) : SqL K H' a xs := by
  rcases h with (h | ⟨o, h⟩) | h
  · exact .inl (.inl (e _ _ h))
  · exact .inl (.inr ⟨o, e _ _ h⟩)
  · exact .inr h

/-! ### a dict's pairs: keys that differ -/
section
variable {κ : Type} [DecidableEq κ]
end
end L2

/-! EXCEPTIONS over the hand layer: own error classes raised in a def, handed on through callers, caught by a try. -/
namespace L2
open PySem PySem.Spec PyProof.Rows

/-- the exception at e is on its way: T its newest entry, which marks no frame -/
noncomputable def Fly (h : Heap) (e T : Addr) (cls : Value) (dct : Option Addr) : Prop :=
  ∃ oe vs oT ts, h.get? e = some oe ∧ oe.cls = cls ∧ oe.dict = dct ∧ oe.data = .fields vs ∧ vs[1]? = some (.ref T) ∧ T ≠ e ∧ h.get? T = some oT ∧ oT.data = .fields ts ∧ ts[3]? = some .none
/-- .. marked by fl -/
noncomputable def FlyAt (h : Heap) (e T : Addr) (cls : Value) (dct : Option Addr) (fl : Value) : Prop :=
  ∃ oe vs oT ts, h.get? e = some oe ∧ oe.cls = cls ∧ oe.dict = dct ∧ oe.data = .fields vs ∧ vs[1]? = some (.ref T) ∧ T ≠ e ∧ h.get? T = some oT ∧ oT.data = .fields ts ∧ ts[3]? = some fl

/-- what an entry changes: e itself, the frames' slots, one new record at T -/
structure Noted (fs : List Addr) (e T : Addr) (h h' : Heap) : Prop where
  keep : ∀ b o, b ≠ e → b ∉ fs → h.get? b = some o → h'.get? b = some o
  slot : ∀ b o, b ≠ e → h.get? b = some o → ∃ sl, h'.get? b = some { o with slots := sl }
  new : h.objs.size ≤ T

section
variable {M : Model} {A : Around} {E : Value → Shared → Prop} {s : Shared}

theorem entry_x {base : Heap} {env : Env} {outer : List Env} {L e : Addr} {oe : Obj} {vs : Array Value} {head : Value} {hadNext : Bool} {Q : Unit → Shared → Prop}
    (hfr : A.frames = some (env :: outer)) (hl : s.heap.FunFrames base (env :: outer)) (hf : env.frame = some L) (he : s.heap.get? e = some oe) (hd : oe.data = .fields vs) (hsz : 1 < vs.size)
    (h : ∀ h' T, Noted (frs (env :: outer)) e T s.heap h' → FlyAt h' e T oe.cls oe.dict (rawInt L) → Q () { s with heap := h' }) :
    wpAny M A (do
      let a ← frameOf env
      let pl ← entryPlaceOf L hadNext
      let b ← EntryCells.newEntry head a .none (rawInt L) .none pl
      setField (.ref e) 1 b) Q E s := by
  have nf : e ∉ (env :: outer).filterMap (·.frame) := fun hm => by
    obtain ⟨_, o, ho, hnf⟩ := hl.mem hm
    rw [he] at ho
    cases ho
    exact hnf vs hd
  refine wpAny_bind (wpAny_frameOf_fun hfr hl hf fun h1 so => wpAny_bind (wpAny_entryPlaceOf fun pl hpl => ?_))
  unfold EntryCells.newEntry newFields
  refine wpAny_bind (wpAny_newObj_type ?_ (hpl.sizeOk5 _ _ _ _ _))
  have e1 : h1.get? e = some oe := (so.2.1 e nf).trans he
  generalize hn : ([head, Value.ref L, Value.none, rawInt L, Value.none] ++ (if pl.isEmpty = true then List.replicate 6 Value.none else pl)) = cells
  have c3 : cells.toArray[3]? = some (rawInt L) := by subst hn; simp
  have e2 := Heap.get?_push_of_some (h := h1) { cls := .type "traceback", dict := none, data := .fields cells.toArray } e1
  refine wpAny_setField e2 hd hsz ?_
  have ne : h1.objs.size ≠ e := Nat.ne_of_gt (Heap.lt_size e1)
  have d3 := Obj.data_mapFields hd (·.setIfInBounds 1 (Value.ref h1.objs.size))
  refine h _ h1.objs.size ⟨fun b o hbe hbf hb => ?_, fun b o hbe hb => ?_, Nat.le_of_eq so.1.symm⟩ ?_
  · rw [Heap.get?_update_other _ _ (Ne.symm hbe)]
    exact Heap.get?_push_of_some _ ((so.2.1 b hbf).trans hb)
  · obtain ⟨sl, hs⟩ := so.2.2 b o hb
    refine ⟨sl, ?_⟩
    rw [Heap.get?_update_other _ _ (Ne.symm hbe)]
    exact Heap.get?_push_of_some _ hs
  · refine ⟨_, _, { cls := .type "traceback", dict := none, data := .fields cells.toArray }, cells.toArray, Heap.get?_update_self _ e2 (Obj.isFreed_of_fields d3), Obj.cls_mapFields _ _, ?_, d3, by simp [hsz], ne, ?_, rfl, c3⟩
    · obtain ⟨c, d, dt, sl⟩ := oe
      cases dt <;> rfl
    · rw [Heap.get?_update_other _ _ (Ne.symm ne)]
      exact Heap.get?_push_size h1 rfl

/-- the newest entry's mark is taken back -/
theorem flight_x {e T : Addr} {cls : Value} {dct : Option Addr} {fl : Value} {Q : Unit → Shared → Prop} (ht : FlyAt s.heap e T cls dct fl)
    (h : ∀ h', (∀ b o, b ≠ T → s.heap.get? b = some o → h'.get? b = some o) → Fly h' e T cls dct → Q () { s with heap := h' }) : wpAny M A (setFlight (.ref e) none) Q E s := by
  obtain ⟨oe, vs, oT, ts, he, hc, hdx, hd, h1, ne, hT, hdT, h3⟩ := ht
  have hsz : 3 < ts.size := (Array.getElem?_eq_some_iff.mp h3).1
  refine wpAny_setFlight_none he hd h1 hT hdT hsz (h _ (fun b o hb q => ?_) ?_)
  · rw [Heap.get?_update_other _ _ (Ne.symm hb)]
    exact q
  · refine ⟨oe, vs, _, _, ?_, hc, hdx, hd, h1, ne, Heap.get?_update_self _ hT (Obj.isFreed_of_fields (Obj.data_mapFields hdT _)), Obj.data_mapFields hdT _, by simp [hsz]⟩
    rw [Heap.get?_update_other _ _ ne]
    exact he

/-- the frame is noted: an exception that was just made -/
theorem note_first {base : Heap} {env : Env} {outer : List Env} {L e : Addr} {oe : Obj} {vs : Array Value} {Q : Unit → Shared → Prop}
    (hfr : A.frames = some (env :: outer)) (hl : s.heap.FunFrames base (env :: outer)) (hf : env.frame = some L) (he : s.heap.get? e = some oe) (hd : oe.data = .fields vs) (h1 : vs[1]? = some .none)
    (h : ∀ h' T, Noted (frs (env :: outer)) e T s.heap h' → FlyAt h' e T oe.cls oe.dict (rawInt L) → Q () { s with heap := h' }) : wpAny M A (noteFrame (.ref e) env) Q E s := by
  unfold noteFrame
  simp only [hf]
  refine wpAny_bind (wpAny_field he hd h1 ?_)
  rw [if_neg (by decide)]
  exact entry_x hfr hl hf he hd (Array.getElem?_eq_some_iff.mp h1).1 h
/-- .. one that comes from a callee: its last entry at T0 turns too -/
theorem note_next {base : Heap} {env : Env} {outer : List Env} {L e T0 : Addr} {cls : Value} {dct : Option Addr} {Q : Unit → Shared → Prop}
    (hfr : A.frames = some (env :: outer)) (hl : s.heap.FunFrames base (env :: outer)) (hf : env.frame = some L) (ht : Fly s.heap e T0 cls dct)
    (h : ∀ h' T, (∀ b o, b ≠ e → b ≠ T0 → b ∉ frs (env :: outer) → s.heap.get? b = some o → h'.get? b = some o) → (∀ b o, b ≠ e → b ≠ T0 → s.heap.get? b = some o → ∃ sl, h'.get? b = some { o with slots := sl }) → s.heap.objs.size ≤ T →
      FlyAt h' e T cls dct (rawInt L) → (∀ b o, s.heap.get? b = some o → ∃ o', h'.get? b = some o') → Q () { s with heap := h' }) : wpAny M A (noteFrame (.ref e) env) Q E s := by
  obtain ⟨oe, vs, oT, ts, he, rfl, rfl, hd, h1, ne, hT, hdT, h3⟩ := ht
  unfold noteFrame
  simp only [hf]
  refine wpAny_bind (wpAny_field he hd h1 ?_)
  rw [if_pos (show (Value.ref T0 != Value.none) = true from by simp)]
  refine wpAny_bind (wpAny_field hT hdT h3 ?_)
  rw [if_neg (show ¬ ((Value.none == rawInt L) = true) from by simp [rawInt])]
  refine wpAny_bind (wpAny_setField hT hdT (Array.getElem?_eq_some_iff.mp h3).1 ?_)
  have oth : ∀ b, b ≠ T0 → (s.heap.update T0 (Obj.mapFields (·.setIfInBounds 3 Value.none))).get? b = s.heap.get? b := fun b hb => Heap.get?_update_other _ _ (Ne.symm hb)
  have selfT := Heap.get?_update_self (Obj.mapFields (·.setIfInBounds 3 Value.none)) hT (Obj.isFreed_of_fields (Obj.data_mapFields hdT _))
  have nrec : ∀ b o, s.heap.get? b = some o → (∀ vs, o.data ≠ .fields vs) → b ≠ T0 := fun b o hb hnf q => by
    rw [q, hT] at hb
    cases hb
    exact hnf ts hdT
  have hl' : (s.heap.update T0 (Obj.mapFields (·.setIfInBounds 3 Value.none))).FunFrames base (env :: outer) := hl.of_keeps fun b o hb hnf => ⟨o, (oth b (nrec b o hb hnf)).trans hb, rfl⟩
  refine entry_x (s := { s with heap := s.heap.update T0 (Obj.mapFields (·.setIfInBounds 3 Value.none)) }) hfr hl' hf ((oth e (Ne.symm ne)).trans he) hd (Array.getElem?_eq_some_iff.mp h1).1 fun h' T N F => ?_
  refine h h' T (fun b o b1 b2 b3 q => N.keep b o b1 b3 ((oth b b2).trans q)) (fun b o b1 b2 q => N.slot b o b1 ((oth b b2).trans q)) (Nat.le_trans (Nat.le_of_eq (Heap.size_after_update _ _ _).symm) N.new) F fun b o q => ?_
  by_cases b1 : b = e
  · subst b1
    obtain ⟨oe', _, _, _, q', _⟩ := F
    exact ⟨oe', q'⟩
  · by_cases b2 : b = T0
    · subst b2
      obtain ⟨sl, q'⟩ := N.slot b _ b1 selfT
      exact ⟨_, q'⟩
    · obtain ⟨sl, q'⟩ := N.slot b o b1 ((oth b b2).trans q)
      exact ⟨_, q'⟩
end
end L2

namespace L2
open PySem PySem.Spec PyProof.Rows

/-- an exception lies behind a call: new, untracked, of the class cls, with the dict dct -/
noncomputable def CX1 (P : Program) (w : World) : CXT := fun outer H s E ev s' =>
  ∃ e T cls dct H', ev = .ref e ∧ s'.os = s.os ∧ AllBare s'.gens ∧ Un (frs outer) [] H H' s.heap s'.heap ∧ HOk P w H' s'.heap ∧ Fly s'.heap e T cls dct ∧
    s.heap.get? e = none ∧ s.heap.get? T = none ∧ H' e = none ∧ H' T = none ∧ E cls dct H'

section
variable {X : Cx} {pins : List (Addr × Obj)} {σ : St} {H : Hp} {s : Shared} {h' : Heap}
/-- what an exception's entries change leaves the rest as a callee must -/
theorem left_ok (I : Inv X pins σ H s) (hex : X.ex = []) (bad : List Addr) (hb : ∀ b ∈ bad, X.s₀.heap.get? b = none ∧ H b = none)
    (k1 : ∀ b o, b ∉ bad → b ∉ frs X.stack → s.heap.get? b = some o → h'.get? b = some o) (k2 : ∀ b o, b ∉ bad → s.heap.get? b = some o → ∃ sl, h'.get? b = some { o with slots := sl })
    (k3 : ∀ b o, s.heap.get? b = some o → ∃ o', h'.get? b = some o') : Un X.fs [] X.H₀ H X.s₀.heap h' ∧ HOk X.prog X.w H h' := by
  have B := I.base
  rw [hex] at B
  have nb : ∀ b o, X.s₀.heap.get? b = some o → b ∉ bad := fun b o q z => by
    rw [(hb b z).1] at q
    cases q
  have nL : ∀ b o, X.s₀.heap.get? b = some o → b ≠ X.env.locals := fun b o q => Nat.ne_of_lt (Nat.lt_of_lt_of_le (Heap.lt_size q) I.ok.above)
  have e0 : ∀ b : Addr, b ∉ ([] : List Addr) := fun b => by simp
  refine ⟨⟨fun b o q n hf _ => ?_, fun b o q n hf _ => ?_, B.free, fun b o q _ => ?_, B.tups, B.frzs, B.tbls⟩, fun a u q => ?_⟩
  · refine k1 b o (nb b o q) (fun z => ?_) (B.keep b o q n hf (e0 b))
    rcases List.mem_cons.mp (I.stkSub b z) with z | z
    · exact nL b o q z
    · exact hf z
  · obtain ⟨sl, q1⟩ := B.slot b o q n hf (e0 b)
    obtain ⟨sl', q2⟩ := k2 b _ (nb b o q) q1
    exact ⟨sl', q2⟩
  · obtain ⟨o1, q1⟩ := B.there b o q (e0 b)
    exact k3 b o1 q1
  · have tr : ∀ b v, H b = some v → b ∉ bad ∧ b ∉ frs X.stack := fun b v z => ⟨(fun y => absurd ((hb b y).2.symm.trans z) (by simp)), fun y => absurd ((I.stkFree b y).symm.trans z) (by simp)⟩
    refine (I.hok a u q).stay (fun b v hbv z => ?_) (fun _ z => z) fun _ _ z => z
    rcases hbv with rfl | hbv
    · exact k1 b v (tr b _ q).1 (tr b _ q).2 z
    · exact k1 b v (tr b _ hbv).1 (tr b _ hbv).2 z
end

section
variable {P : Program} {w : World} {K : PySem.W.Frag} {mg : Str → Option Value} {base : Heap} {N : List Str} {qual : Str} {scope : Scope} {f : Addr} {cd : Value} {A : Around} {outer : List Env} {s₀ : Shared} {H₀ : Hp} {E : XK}
noncomputable abbrev cx1 (P : Program) (w : World) (K : PySem.W.Frag) (mg : Str → Option Value) (base : Heap) (N : List Str) (qual : Str) (scope : Scope) (f : Addr) (cd : Value) (A : Around) (outer : List Env) (s₀ : Shared) (H₀ : Hp) (E : XK) : Cx :=
  cxOf (CX1 P w) P w K mg base N qual scope f cd A outer s₀ H₀ E

/-- an exception that was made in the body leaves it -/
theorem xe_made {pins : List (Addr × Obj)} {σ : St} {H : Hp} {s : Shared} {e : Addr} {oe : Obj} {vs : Array Value} (I : Inv (cx1 P w K mg base N qual scope f cd A outer s₀ H₀ E) pins σ H s)
    (he : s.heap.get? e = some oe) (hd : oe.data = .fields vs) (h1 : vs[1]? = some .none) (hn : s₀.heap.get? e = none) (hH : H e = none) (q : E oe.cls oe.dict H) : (cx1 P w K mg base N qual scope f cd A outer s₀ H₀ E).xe (.ref e) s := by
  show wpAny _ _ (leaving _ _) _ _ _
  unfold leaving
  refine wpAny_bind (note_first (base := base) (L := s₀.heap.objs.size) I.ok.frames I.stack rfl he hd h1 fun h1' T Nt F => ?_)
  refine flight_x (s := { s with heap := h1' }) F fun h2 k F2 => ?_
  have bT : s.heap.objs.size ≤ T := Nt.new
  have tn : ∀ b o, s.heap.get? b = some o → b ≠ T := fun b o z => Nat.ne_of_lt (Nat.lt_of_lt_of_le (Heap.lt_size z) bT)
  have s0T : s₀.heap.objs.size ≤ T := Nat.le_trans I.sz bT
  obtain ⟨u, hk⟩ := left_ok (h' := h2) I rfl [e] (fun b hb => by
      have z : b = e := by simpa using hb
      subst z
      exact ⟨hn, hH⟩)
    (fun b o b1 b2 z => k b o (tn b o z) (Nt.keep b o (by simpa using b1) b2 z))
    (fun b o b1 z => by
      obtain ⟨sl, z1⟩ := Nt.slot b o (by simpa using b1) z
      exact ⟨sl, k b _ (tn b o z) z1⟩)
    (fun b o z => by
      by_cases b1 : b = e
      · subst b1
        obtain ⟨oe', _, _, _, z1, _⟩ := F2
        exact ⟨oe', z1⟩
      · obtain ⟨sl, z1⟩ := Nt.slot b o b1 z
        exact ⟨_, k b _ (tn b o z) z1⟩)
  exact ⟨e, T, _, _, H, rfl, I.os, I.bare, u, hk, F2, hn, Heap.get?_none_of_le s0T, hH, I.hok.fresh bT, q⟩

/-- an exception of a callee leaves the body -/
theorem pass1 : Passes (CX1 P w) (cx1 P w K mg base N qual scope f cd A outer s₀ H₀ E) E := by
  intro pins σ H s ev s' I hc
  obtain ⟨e, T0, cls, dct, H', rfl, os, bare, un, hok, F0, hne, hnT, hHe, hHT, q⟩ := hc
  have I' : Inv (cx1 P w K mg base N qual scope f cd A outer s₀ H₀ E) pins σ H' s' := I.call' (ch := []) os un hok bare fun b z => absurd z (by simp)
  have old : ∀ b, s.heap.get? b = none → s₀.heap.get? b = none := fun b z => by
    cases q1 : s₀.heap.get? b with
    | none => rfl
    | some o =>
      obtain ⟨o', q2⟩ := I.base.there b o q1 (show b ∉ ([] : List Addr) by simp)
      rw [z] at q2
      cases q2
  show wpAny _ _ (leaving _ _) _ _ _
  unfold leaving
  refine wpAny_bind (note_next (base := base) (L := s₀.heap.objs.size) I'.ok.frames I'.stack rfl F0 fun h1' T k1 k2 bT F k3 => ?_)
  refine flight_x (s := { s' with heap := h1' }) F fun h2 k F2 => ?_
  have tn : ∀ b o, s'.heap.get? b = some o → b ≠ T := fun b o z => Nat.ne_of_lt (Nat.lt_of_lt_of_le (Heap.lt_size z) bT)
  have s0T : s₀.heap.objs.size ≤ T := Nat.le_trans I'.sz bT
  obtain ⟨u, hk⟩ := left_ok (h' := h2) I' rfl [e, T0] (fun b hb => by
      rcases List.mem_cons.mp hb with z | hb
      · subst z
        exact ⟨old b hne, hHe⟩
      · have z : b = T0 := by simpa using hb
        subst z
        exact ⟨old b hnT, hHT⟩)
    (fun b o b1 b2 z => k b o (tn b o z) (k1 b o (fun y => b1 (by simp [y])) (fun y => b1 (by simp [y])) b2 z))
    (fun b o b1 z => by
      obtain ⟨sl, z1⟩ := k2 b o (fun y => b1 (by simp [y])) (fun y => b1 (by simp [y])) z
      exact ⟨sl, k b _ (tn b o z) z1⟩)
    (fun b o z => by
      obtain ⟨o1, z1⟩ := k3 b o z
      exact ⟨o1, k b _ (tn b o z) z1⟩)
  exact ⟨e, T, cls, dct, H', rfl, I'.os, bare, u, hk, F2, old e hne, Heap.get?_none_of_le s0T, hHe, hok.fresh bT, q⟩
/-- a loop hands on what leaves the body -/
theorem own1 : PassesOwn (model P w) (cx1 P w K mg base N qual scope f cd A outer s₀ H₀ E).A (cx1 P w K mg base N qual scope f cd A outer s₀ H₀ E).env (cx1 P w K mg base N qual scope f cd A outer s₀ H₀ E).xe := PassesOwn.leaving
end
end L2

namespace L2
open PySem PySem.Spec PyProof.Rows

theorem ObjOk.there {P : Program} {w : World} {H : Hp} {h : Heap} {a : Addr} {o : HO} (x : ObjOk P w H h a o) : ∃ ob, h.get? a = some ob := by
  cases o with
  | lst xs => obtain ⟨_, _, _, _, e⟩ := x; exact ⟨_, e⟩
  | tup xs => obtain ⟨_, _, _, o, e, _⟩ := x; exact ⟨_, e⟩
  | dK kvs => obtain ⟨_, _, _, _, o, _, _, e, _⟩ := x; exact ⟨_, e⟩
  | dT kvs => obtain ⟨_, _, _, _, o, _, _, e, _⟩ := x; exact ⟨_, e⟩
  | set S n => obtain ⟨o, _, _, _, e, _⟩ := x; exact ⟨_, e⟩
  | ins C dx fs => obtain ⟨_, _, _, e, _⟩ := x; exact ⟨_, e⟩
  | own y => exact x
  | xd fs => obtain ⟨_, ⟨_, _, _, e, _⟩, _⟩ := x; exact ⟨_, e⟩
  | rng lo hi => obtain ⟨_, _, _, e⟩ := x; exact ⟨_, e⟩
  | frz ob u => obtain ⟨e, _⟩ := x; exact ⟨_, e⟩
  | tbl ps => exact ⟨_, (show h.get? a = some _ from x)⟩
  | met f y => exact ⟨_, (show h.get? a = some _ from x)⟩
  | ext φ => obtain ⟨_, e, _⟩ := x; exact e
theorem HOk.new {P : Program} {w : World} {H : Hp} {h : Heap} {a : Addr} (x : HOk P w H h) (e : h.get? a = none) : H a = none := by
  cases q : H a with
  | none => rfl
  | some u =>
    obtain ⟨o, z⟩ := (x a u q).there
    rw [e] at z
    cases z

/-- an exception that is made here reaches what the body wants -/
noncomputable def Raises (X : Cx) (E : XK) : Prop := ∀ (pins : List (Addr × Obj)) (σ : St) (H : Hp) (s : Shared) (h' : Heap) (e : Addr) (oe : Obj) (vs : Array Value), Inv X pins σ H s → (∀ b o, s.heap.get? b = some o → h'.get? b = some o) → s.heap.get? e = none →
  h'.get? e = some oe → oe.data = .fields vs → vs[1]? = some .none → E oe.cls oe.dict H → X.xe (.ref e) { s with heap := h' }

section
variable {P : Program} {w : World} {K : PySem.W.Frag} {mg : Str → Option Value} {base : Heap} {N : List Str} {qual : Str} {scope : Scope} {f : Addr} {cd : Value} {A : Around} {outer : List Env} {s₀ : Shared} {H₀ : Hp} {E : XK}
theorem raises1 : Raises (cx1 P w K mg base N qual scope f cd A outer s₀ H₀ E) E := by
  intro pins σ H s h' e oe vs I k hn he hd h1 q
  have I' : Inv (cx1 P w K mg base N qual scope f cd A outer s₀ H₀ E) pins σ H { s with heap := h' } := I.kept (t' := s.toks) k
  refine xe_made I' he hd h1 ?_ (I.hok.new hn) q
  cases q1 : s₀.heap.get? e with
  | none => rfl
  | some o =>
    obtain ⟨o', q2⟩ := I.base.there e o q1 (show e ∉ ([] : List Addr) by simp)
    rw [hn] at q2
    cases q2
end

section
variable {X : Cx} {x : Str} {C : Addr} {B newId initId : String} {bm : List Value} {np cpos pos : Pos} {E : XK} {e₀ : Expr} {rest : List Expr} {t : TA}
/-- raise C(e, ..), C an own class without an __init__ of its own -/
noncomputable def tRaise (C : Addr) (E : XK) (t : TA) : TS := fun _ σ H => t σ H fun vs H1 => vs.length ≤ sizeLine ∧ E (.ref C) none H1
theorem ps_raise (O : OwnCls x C bm newId X.mg X.base) (FB : ExcBaseFacts B newId initId bm) (hg : Gl X x) (hc : X.calm = true) (hx : Raises X E) (ha : PA X (e₀ :: rest) t)
    (he : starEach (e₀ :: rest) X.env = (false, eval e₀ X.env) :: starEach rest X.env := by rfl) (hpl : (backTo cpos (starEach rest X.env)).any (·.1) = false := by rfl) (hd : (x == ("__debug__" : Str)) = false := by decide) :
    PS X (.Raise (some (.Call (.Name x np) (e₀ :: rest) [] cpos)) none pos) (tRaise C E t) := by
  intro pins s σ H D I h
  obtain ⟨tl, N, nm, q, bs, hdct, sn, sub, ab, col, dd, k0, k1, k2, k3, k5, mN, hC, hN, hni, T⟩ := O.obj
  refine wpAny_Raise_call_subT (C := C) (nm := nm) (q := q) (N := N) (bs := bs) (bm := tl) (hdct := hdct) (sn := sn) (sub := sub) (ab := ab) (col := col) (dd := dd) (k0 := k0) (k1 := k1) (k2 := k2) (k3 := k3) (k5 := k5)
    FB (mN := mN) (T.hasType FB.hasBase) (I.ok.hd hc) (by rw [he]; exact hpl) hni (ld_glob I hg O.bound ⟨rfl, ?_⟩ hd)
  have hp := ha cpos pins s σ H _ I h
  rw [he] at hp ⊢
  refine Calls.evalArgs_plain (thn hp fun us s2 ⟨vs, H1, I1, r1, z, hE⟩ => ⟨rfl, by show us.length ≤ _; rw [← r1.length]; exact z, I1.bk _ _ hC, hN.keeps I1.bk, T.keeps I1.bk, fun h' e M => ?_⟩)
  obtain ⟨tt, he', _, _⟩ := M.there
  exact hx pins σ H1 s2 h' e _ _ I1 M.keeps M.new he' rfl rfl hE
end
end L2

namespace L2
open PySem PySem.Spec PyProof.Rows
section
variable {X : Cx} {pins : List (Addr × Obj)} {σ : St} {H H' : Hp} {s : Shared} {h' : Heap}

/-- as Inv.step, where the records that turn are such as the entry's heap had nothing at -/
theorem Inv.stepN {g' : Array GenState} {t' : Nat} {d' : Drawn} {ch : List Addr} (I : Inv X pins σ H s)
    (hch : ∀ b ∈ ch, (b ∈ X.ex ∨ X.s₀.heap.get? b = none) ∧ b ≠ X.env.locals ∧ (∀ x c, X.env.cells.lookup x = some c → c ≠ b) ∧ ∀ p ∈ X.pn ++ pins, p.1 ≠ b)
    (keep : ∀ b o, b ≠ X.env.locals → b ∉ X.fs → b ∉ ch → s.heap.get? b = some o → H b = none → h'.get? b = some o)
    (slot : ∀ b o, b ≠ X.env.locals → b ∈ X.fs → b ∉ ch → s.heap.get? b = some o → H b = none → ∃ sl, h'.get? b = some { o with slots := sl }) (free : ∀ b o, b ∉ ch → s.heap.get? b = some o → H b = none → H' b = none)
    (there : ∀ b o, b ∉ ch → s.heap.get? b = some o → ∃ o', h'.get? b = some o')
    (tups : ∀ b xs, H b = some (.tup xs) → H' b = some (.tup xs)) (frzs : ∀ b o u, H b = some (.frz o u) → H' b = some (.frz o u)) (tbls : ∀ b ps, H b = some (.tbl ps) → ∃ more, H' b = some (.tbl (ps ++ more)))
    (ns : ∀ m, s.heap.Ns X.env.locals m → h'.Ns X.env.locals m) (hok : HOk X.prog X.w H' h') (hg : AllBare g') :
    Inv X pins σ H' { s with heap := h', gens := g', drawn := d', toks := t' } := by
  have neL : ∀ b o, X.s₀.heap.get? b = some o → b ≠ X.env.locals := fun b o e => Nat.ne_of_lt (Nat.lt_of_lt_of_le (Heap.lt_size e) I.ok.above)
  have neC : ∀ b o, X.s₀.heap.get? b = some o → b ∉ X.ex → b ∉ ch := fun b o e hx hb => by
    rcases (hch b hb).1 with z | z
    · exact hx z
    · rw [z] at e
      cases e
  have cellK : ∀ x c, X.env.cells.lookup x = some c → ∀ v, s.heap.IsCell c v → h'.IsCell c v := fun x c e v ⟨o, ho, hd⟩ => by
    have nch : c ∉ ch := fun z => (hch c z).2.2.1 x c e rfl
    by_cases hc : c ∈ X.fs
    · obtain ⟨sl, q⟩ := slot c o (I.cne x c e) hc nch ho (I.freeC x c e)
      exact ⟨_, q, hd⟩
    · exact ⟨o, keep c o (I.cne x c e) hc nch ho (I.freeC x c e), hd⟩
  refine ⟨I.ok, I.os, hg, ⟨fun b o e n hb hx => ?_, fun b o e n hb hx => ?_, fun b o e n hx => ?_, fun b o e hx => ?_, fun b xs e => tups b xs (I.base.tups b xs e), fun b o xs e => frzs b o xs (I.base.frzs b o xs e), fun b ps e => ?_⟩, ?_, fun x c e => ?_, ?_, fun x c e => ?_, fun p hp => ?_, hok, I.len⟩
  · exact keep b o (neL b o e) hb (neC b o e hx) (I.base.keep b o e n hb hx) (I.base.free b o e n hx)
  · obtain ⟨sl, e1⟩ := I.base.slot b o e n hb hx
    obtain ⟨sl', e2⟩ := slot b _ (neL b o e) hb (neC b o e hx) e1 (I.base.free b o e n hx)
    exact ⟨sl', e2⟩
  · obtain ⟨o', e1⟩ := I.base.there b o e hx
    exact free b o' (neC b o e hx) e1 (I.base.free b o e n hx)
  · obtain ⟨o', e1⟩ := I.base.there b o e hx
    exact there b o' (neC b o e hx) e1
  · obtain ⟨m1, e1⟩ := I.base.tbls b ps e
    obtain ⟨m2, e2⟩ := tbls b _ e1
    exact ⟨m1 ++ m2, by rw [e2, Array.append_assoc]⟩
  · obtain ⟨m, hn, hl⟩ := I.loc
    refine ⟨m, ns m hn, fun i x v e1 e2 e3 => ?_⟩
    obtain ⟨u, r, l⟩ := hl i x v e1 e2 e3
    refine ⟨u, r, ?_⟩
    rcases l with l | ⟨k, c, e, z⟩
    · exact .inl l
    · exact .inr ⟨k, c, e, cellK x c e _ z⟩
  · obtain ⟨v, z⟩ := I.cell x c e
    exact ⟨v, cellK x c e v z⟩
  · obtain ⟨m, ⟨o, _, _, ho, _⟩, _⟩ := I.loc
    exact free _ o (fun z => (hch _ z).2.1 rfl) ho I.free
  · obtain ⟨v, o, ho, hd⟩ := I.cell x c e
    exact free c o (fun z => (hch c z).2.2.1 x c e rfl) ho (I.freeC x c e)
  · obtain ⟨e, n, ne, nf, d⟩ := I.pin p hp
    have nch : p.1 ∉ ch := fun z => (hch p.1 z).2.2.2 p hp rfl
    exact ⟨keep p.1 p.2 ne nf nch e n, free p.1 p.2 nch e n, ne, nf, d⟩

/-- a thing that the state knows nothing of is apart from the frame, the cells, the pins -/
structure Apart (X : Cx) (pins : List (Addr × Obj)) (e : Addr) : Prop where
  old : X.s₀.heap.get? e = none
  loc : e ≠ X.env.locals
  cel : ∀ x c, X.env.cells.lookup x = some c → c ≠ e
  pin : ∀ p ∈ X.pn ++ pins, p.1 ≠ e
theorem Inv.apart (I : Inv X pins σ H s) (hex : X.ex = []) {e : Addr} (hn : s.heap.get? e = none) : Apart X pins e := by
  have ne : ∀ b o, s.heap.get? b = some o → b ≠ e := fun b o q z => by
    rw [z, hn] at q
    cases q
  refine ⟨?_, ?_, fun x c q => ?_, fun p hp => ne _ _ (I.pin p hp).1⟩
  · cases q1 : X.s₀.heap.get? e with
    | none => rfl
    | some o =>
      obtain ⟨o', q2⟩ := I.base.there e o q1 (by rw [hex]; simp)
      rw [hn] at q2
      cases q2
  · obtain ⟨m, ⟨o, _, _, ho, _⟩, _⟩ := I.loc
    exact Ne.symm (ne _ _ ho)
  · obtain ⟨v, o, ho, _⟩ := I.cell x c q
    exact ne _ _ ho

/-- a thing is tracked by what is true of it -/
theorem Inv.track {e : Addr} {φ : Heap → Prop} (I : Inv X pins σ H s) (a : Apart X pins e) (hH : H e = none) (ht : ∃ o, s.heap.get? e = some o) (p : φ s.heap) (st : ∀ h1 h2 : Heap, φ h1 → (∀ o, h1.get? e = some o → h2.get? e = some o) → φ h2) :
    Inv X pins σ (upd H e (.ext φ)) s := by
  have nn : ∀ b u, H b = some u → b ≠ e := fun b u q z => by
    rw [z, hH] at q
    cases q
  refine ⟨I.ok, I.os, I.bare, ⟨I.base.keep, I.base.slot, fun b o q n hx => ?_, I.base.there, fun b xs q => ?_, fun b o u q => ?_, fun b ps q => ?_⟩, I.loc, I.cell, ?_, fun x c q => ?_, fun pp hp => ?_, fun b u q => ?_, I.len⟩
  · rw [upd_ne (fun z => by rw [z, a.old] at q; cases q)]
    exact I.base.free b o q n hx
  · rw [upd_ne (nn b _ (I.base.tups b xs q))]
    exact I.base.tups b xs q
  · rw [upd_ne (nn b _ (I.base.frzs b o u q))]
    exact I.base.frzs b o u q
  · obtain ⟨m, z⟩ := I.base.tbls b ps q
    exact ⟨m, by rw [upd_ne (nn b _ z)]; exact z⟩
  · rw [upd_ne (Ne.symm a.loc)]
    exact I.free
  · rw [upd_ne (a.cel x c q)]
    exact I.freeC x c q
  · obtain ⟨z1, z2, z3⟩ := I.pin pp hp
    exact ⟨z1, by rw [upd_ne (a.pin pp hp)]; exact z2, z3⟩
  · by_cases hb : b = e
    · subst hb
      rw [upd_same] at q
      cases q
      exact ⟨p, ht, st⟩
    · rw [upd_ne hb] at q
      exact (I.hok b u q).stay (fun _ _ _ z => z) (fun c z => by rw [upd_ne (nn c _ z)]; exact z) fun c xs z => by rw [upd_ne (nn c _ z)]; exact z
/-- .. and no more -/
noncomputable def drop (H : Hp) (e : Addr) : Hp := fun b => if b = e then none else H b
theorem drop_same {H : Hp} {e : Addr} : drop H e e = none := if_pos rfl
theorem drop_ne {H : Hp} {e b : Addr} (h : b ≠ e) : drop H e b = H b := if_neg h

/-- a name is taken out of the frame -/
theorem gone_ok {M : Model} {A : Around} {E : Value → Shared → Prop} {i : Nat} {n : Str} {pos : Pos} {Q : Unit → Shared → Prop} (I : Inv X pins σ H s) (hN : X.N.Nodup) (hi : X.N[i]? = some n) (hk : X.env.scope.names.lookup n = some .local)
    (h : ∀ s', Inv X pins (σ.set i none) H s' → Q () s') : wpAny M A (do bindName X.env n .none; unbindBehindTheSuite X.env n pos) Q E s := by
  obtain ⟨m, hn, hl⟩ := id I.loc
  have hcls : (X.env.scope.kind == .class || (X.env.scope.kind == .module && X.env.locals != X.env.globals)) = false := by rw [I.ok.kind]; rfl
  have hiσ : i < σ.length := by rw [I.len]; exact (List.getElem?_eq_some_iff.mp hi).1
  refine wpAny_nameGoes_keeps hk hn hcls fun h' v hn' hs => h _ ?_
  obtain ⟨oL, _, _, hoL, _⟩ := id hn
  refine ⟨I.ok, I.os, I.bare, ⟨fun b o e n hb hx => ?_, fun b o e n hb hx => ?_, I.base.free, fun b o e hx => ?_, I.base.tups, I.base.frzs, I.base.tbls⟩, ⟨_, hn', fun j y v' e1 e2 e3 => ?_⟩, fun y c e => ?_, I.free, I.freeC, fun p hp => ?_, fun b ob e => ?_, by simpa using I.len⟩
  · exact (hs.2 b (Nat.ne_of_lt (Nat.lt_of_lt_of_le (Heap.lt_size e) I.ok.above))).trans (I.base.keep b o e n hb hx)
  · obtain ⟨sl, e1⟩ := I.base.slot b o e n hb hx
    exact ⟨sl, (hs.2 b (Nat.ne_of_lt (Nat.lt_of_lt_of_le (Heap.lt_size e) I.ok.above))).trans e1⟩
  · obtain ⟨o', e1⟩ := I.base.there b o e hx
    exact ⟨o', (hs.2 b (Nat.ne_of_lt (Nat.lt_of_lt_of_le (Heap.lt_size e) I.ok.above))).trans e1⟩
  · by_cases hj : j = i
    · subst hj
      rw [List.getElem?_set_self hiσ] at e2
      cases e2
    · rw [List.getElem?_set_ne (Ne.symm hj)] at e2
      obtain ⟨u', r', q⟩ := hl j y v' e1 e2 e3
      refine ⟨u', r', ?_⟩
      rcases q with ⟨k, e⟩ | ⟨k, c, e, z⟩
      · refine .inl ⟨k, ?_⟩
        have : y ≠ n := fun e => hj (nodup_ix hN e1 (e ▸ hi))
        simp [this, e]
      · exact .inr ⟨k, c, e, z.sameBut hs (I.cne y c e)⟩
  · obtain ⟨w', z⟩ := I.cell y c e
    exact ⟨w', z.sameBut hs (I.cne y c e)⟩
  · obtain ⟨e, n, ne, nf, d⟩ := I.pin p hp
    exact ⟨(hs.2 p.1 ne).trans e, n, ne, nf, d⟩
  · refine (I.hok b ob e).stay (fun c w' hc q => (hs.2 c ?_).trans q) (fun _ q => q) fun _ _ q => q
    rintro rfl
    have fr := I.free
    rcases hc with rfl | hc
    · rw [fr] at e; cases e
    · rw [fr] at hc; cases hc
end
end L2

namespace L2
open PySem PySem.Spec PyProof.Rows

/-- a class of the text stands in an except -/
structure CatchC (K : PySem.W.Frag) (mg : Str → Option Value) (x : Str) (C : Addr) : Prop where
  bound : mg x = some (.ref C)
  obj : ∃ dd cd sl, K.lookup C = some ⟨.type "type", dd, .cls cd, sl⟩
  exc : PySem.W.mroIn K C (.type "BaseException") = some true
theorem excm_K {K : PySem.W.Frag} {mg : Str → Option Value} {x : Str} {prog : Program} {w : World} {A : Around} {E : Value → Shared → Prop} {s : Shared} {e C Cc : Addr} {oe : Obj} {b : Bool} {Q : Bool → Shared → Prop} (X : K.In s.heap) (hm : PySem.W.mroIn K C (.ref Cc) = some b)
    (cc : CatchC K mg x Cc) (he : s.heap.get? e = some oe) (hcls : oe.cls = .ref C) (q : Q b s) : wpAny (model prog w) A (excMatches (.ref e) (.ref Cc)) Q E s := by
  obtain ⟨dd, cd, sl, hl⟩ := cc.obj
  have L1 := PySem.W.looks_mroIn (M := model prog w) X hm
  have L2 := PySem.W.looks_mroIn (M := model prog w) X cc.exc
  have hC := X _ _ hl
  have f := tc_notTuple
  have hT : s.TypeIs (.ref Cc) "type" := ⟨_, hC, rfl⟩
  obtain ⟨hp, g, d, tk, os⟩ := s
  unfold excMatches
  repeat (first | (with_reducible refine wpAny_loadPart_at he ?_; rw [hcls]) | (with_reducible refine wpAny_loadPart_at hC ?_) | (with_reducible refine L1.here ?_) | (with_reducible refine L2.here ?_) | wp_step)
  cases b with
  | true =>
    wp_walk
    exact q
  | false =>
    wp_walk
    exact q

/-- what is known of an exception that was caught -/
noncomputable def ExcC (e : Addr) (cls : Value) (dct : Option Addr) : HO := .ext fun h => ∃ oe vs, h.get? e = some oe ∧ oe.cls = cls ∧ oe.dict = dct ∧ oe.data = .fields vs

/-- the suite of an except -/
noncomputable abbrev Cx.sup (X : Cx) (e : Addr) : Cx := { X with A := X.A.mark (some (.ref e)), calm := false, xe := fun _ _ => False }
theorem Cx.Ok.sup {X : Cx} (ok : X.Ok) (e : Addr) : (X.sup e).Ok :=
  ⟨ok.mod, ok.kind, ok.glob, ok.blt, ok.above, ok.inj, ok.has, ok.cab, (fun z => absurd (show false = true from z) (by decide)), ok.frames, ok.stk, ok.exf, ok.bs, ok.bsz, ok.noex, ok.exfs, ok.funs, ok.frf⟩
section
variable {X : Cx} {pins : List (Addr × Obj)} {σ : St} {H : Hp} {s : Shared} {e : Addr}
theorem Inv.sup (I : Inv X pins σ H s) (e : Addr) : Inv (X.sup e) pins σ H s := ⟨I.ok.sup e, I.os, I.bare, I.base, I.loc, I.cell, I.free, I.freeC, I.pin, I.hok, I.len⟩
theorem Inv.unsup (ok : X.Ok) (I : Inv (X.sup e) pins σ H s) : Inv X pins σ H s := ⟨ok, I.os, I.bare, I.base, I.loc, I.cell, I.free, I.freeC, I.pin, I.hok, I.len⟩

/-- the record of an entry turns -/
theorem Inv.recd {T : Addr} {h' : Heap} (I : Inv X pins σ H s) (a : Apart X pins T) (hT : H T = none) (nf : T ∉ X.fs) (k : ∀ b o, b ≠ T → s.heap.get? b = some o → h'.get? b = some o) : Inv X pins σ H { s with heap := h' } := by
  have kt : ∀ b u, H b = some u → b ≠ T := fun b u q z => by
    rw [z, hT] at q
    cases q
  refine I.stepN (g' := s.gens) (d' := s.drawn) (t' := s.toks) (ch := [T]) (fun b hb => ?_) (fun b o _ _ hc q _ => k b o (by simpa using hc) q) (fun b o _ hf hc q _ => ⟨o.slots, k b o (by simpa using hc) q⟩) (fun b o _ _ n => n)
    (fun b o hc q => ⟨o, k b o (by simpa using hc) q⟩) (fun _ _ q => q) (fun _ _ _ q => q) (fun b ps q => ⟨#[], by rw [q]; simp⟩) (fun m hm => ?_) (fun b u q => ?_) I.bare
  · have z : b = T := by simpa using hb
    subst z
    exact ⟨.inr a.old, a.loc, a.cel, a.pin⟩
  · obtain ⟨o, es, ep, ho, r⟩ := hm
    exact ⟨o, es, ep, k _ o (Ne.symm a.loc) ho, r⟩
  · refine (I.hok b u q).stay (fun c v hc z => k c v ?_ z) (fun _ z => z) fun _ _ z => z
    rcases hc with rfl | hc
    · exact kt c u q
    · exact kt c _ hc

/-- an exception of a callee is looked at: where it lies then -/
theorem catch_core {M : Model} {E0 : Value → Shared → Prop} {E : XK} {ev : Value} {s' : Shared} {Q : Shared → Prop} (hst : X.stack = X.env :: X.outer) (hfr : X.env.frame = some X.env.locals) (hex : X.ex = []) (I : Inv X pins σ H s)
    (hc : CX1 X.prog X.w X.stack H s E ev s')
    (k : ∀ e T cls dct H' s3, ev = .ref e → E cls dct H' → H' e = none → H' T = none → Apart X pins e → Apart X pins T → T ∉ X.fs → Inv X pins σ H' s3 → Fly s3.heap e T cls dct → Q s3) :
    wpAny M X.A (noteFrame ev X.env) (fun _ s2 => wpAny M X.A (setFlight ev none) (fun _ s3 => Q s3) E0 s2) E0 s' := by
  obtain ⟨e, T0, cls, dct, H', rfl, os, bare, un, hok, F0, hne, hnT, hHe, hHT, q⟩ := hc
  have I' : Inv X pins σ H' s' := I.call' (ch := []) os un hok bare fun b z => absurd z (by simp)
  have ae := I.apart hex hne
  have aT0 := I.apart hex hnT
  have hfr' : X.A.frames = some (X.env :: X.outer) := by rw [I.ok.frames, hst]
  have hst' : s'.heap.FunFrames X.base (X.env :: X.outer) := by have z := I'.stack; rwa [hst] at z
  have nfs : ∀ b, b ≠ X.env.locals → b ∉ X.fs → b ∉ frs (X.env :: X.outer) := fun b h1 h2 z => by
    unfold frs at z
    rw [List.filterMap_cons, hfr] at z
    rcases List.mem_cons.mp z with z | z
    · exact h1 z
    · exact h2 z
  refine note_next (base := X.base) (L := X.env.locals) hfr' hst' hfr F0 fun h1 T k1 k2 bT F1 k3 => ?_
  refine flight_x (s := { s' with heap := h1 }) F1 fun h2 k4 F2 => ?_
  have tn : ∀ b o, s'.heap.get? b = some o → b ≠ T := fun b o z => Nat.ne_of_lt (Nat.lt_of_lt_of_le (Heap.lt_size z) bT)
  have HT : H' T = none := hok.fresh bT
  have aT := I'.apart hex (Heap.get?_none_of_le bT)
  have tr : ∀ b u, H' b = some u → b ≠ e ∧ b ≠ T0 ∧ b ∉ frs (X.env :: X.outer) := fun b u z => ⟨(fun y => absurd ((congrArg H' y).symm.trans z) (by rw [hHe]; simp)), (fun y => absurd ((congrArg H' y).symm.trans z) (by rw [hHT]; simp)), fun y => absurd ((I'.stkFree b (by rw [hst]; exact y)).symm.trans z) (by simp)⟩
  refine k e T cls dct H' { s' with heap := h2 } rfl q hHe HT ae aT (I'.nofs bT) ?_ F2
  refine I'.stepN (g' := s'.gens) (d' := s'.drawn) (t' := s'.toks) (ch := [e, T0]) (fun b hb => ?_) (fun b o hL hf hc z _ => k4 b o (tn b o z) (k1 b o (fun y => hc (by simp [y])) (fun y => hc (by simp [y])) (nfs b hL hf) z))
    (fun b o _ _ hc z _ => by
      obtain ⟨sl, z1⟩ := k2 b o (fun y => hc (by simp [y])) (fun y => hc (by simp [y])) z
      exact ⟨sl, k4 b _ (tn b o z) z1⟩) (fun _ _ _ _ n => n)
    (fun b o _ z => by
      obtain ⟨o1, z1⟩ := k3 b o z
      exact ⟨o1, k4 b _ (tn b o z) z1⟩) (fun _ _ z => z) (fun _ _ _ z => z) (fun b ps z => ⟨#[], by rw [z]; simp⟩) (fun m hm => ?_) (fun b u z => ?_) bare
  · rcases List.mem_cons.mp hb with z | hb
    · subst z
      exact ⟨.inr ae.old, ae.loc, ae.cel, ae.pin⟩
    · have z : b = T0 := by simpa using hb
      subst z
      exact ⟨.inr aT0.old, aT0.loc, aT0.cel, aT0.pin⟩
  · obtain ⟨o, es, ep, ho, r⟩ := hm
    obtain ⟨sl, z1⟩ := k2 _ o (Ne.symm ae.loc) (Ne.symm aT0.loc) ho
    exact ⟨_, es, ep, k4 _ _ (tn _ o ho) z1, r⟩
  · refine (I'.hok b u z).stay (fun c v hc y => ?_) (fun _ y => y) fun _ _ y => y
    have t3 : c ≠ e ∧ c ≠ T0 ∧ c ∉ frs (X.env :: X.outer) := by
      rcases hc with rfl | hc
      · exact tr c u z
      · exact tr c _ hc
    exact k4 c v (tn c v y) (k1 c v t3.1 t3.2.1 t3.2.2 y)

/-- the suite of an except with a name, as a def's body runs it -/
theorem suite_as {Cc e T : Addr} {cls : Value} {dct : Option Addr} {s3 : Shared} {D : Ends} {cx n : Str} {np hpos : Pos} {i : Nat} {b₀ : Stmt} {suite : List Stmt} {rest : List ExceptHandler} {ts : TS} (cc : CatchC X.K X.mg cx Cc) (hg : Gl X cx)
    (hN : X.N.Nodup) (hi : X.N[i]? = some n) (hk : X.env.scope.names.lookup n = some .local) (hs : PSs (X.sup e) (b₀ :: suite) ts) (hm : ∃ C, cls = .ref C ∧ PySem.W.mroIn X.K C (.ref Cc) = some true)
    (hH : H e = none) (hT : H T = none) (ae : Apart X pins e) (aT : Apart X pins T) (nT : T ∉ X.fs) (I : Inv X pins σ H s3) (F : Fly s3.heap e T cls dct)
    (h : ts { nx := fun σ' H' => D.nx (σ'.set i none) H', rt := D.rt, bk := fun σ' H' => D.bk (σ'.set i none) H', ct := fun σ' H' => D.ct (σ'.set i none) H' } (σ.set i (some (.ref e))) (upd H e (ExcC e cls dct))) (hd : (cx == ("__debug__" : Str)) = false := by decide) :
    wpAny (model X.prog X.w) X.A (handleBy (.ref e) X.env (.ExceptHandler (some (.Name cx np)) (some n) (b₀ :: suite) hpos :: rest)) (SP X pins D) X.xe s3 := by
  obtain ⟨C, rfl, hmro⟩ := hm
  obtain ⟨oe, vs, oT, ts', he, hcl, hdx, hdt, h1, ne, hoT, hdT, h3⟩ := id F
  have Is := I.sup e
  refine wpAny_handleBy_cons (codeAny_handlers_test (ld_glob (X := X.sup e) Is hg cc.bound ?_ hd)) (by intro q; cases q)
  refine excm_K I.kIn hmro cc he hcl ?_
  refine codeAny_handlers_suite_as (flight_x F fun h' k' F' => ?_)
  have I1 : Inv X pins σ H { s3 with heap := h' } := I.recd aT hT nT k'
  obtain ⟨oe', vs', oT', tsx, he', hcl', hdx', hdt', _⟩ := id F'
  have I2 : Inv X pins σ (upd H e (ExcC e (.ref C) dct)) { s3 with heap := h' } := I1.track ae hH ⟨oe', he'⟩ ⟨oe', vs', he', hcl', hdx', hdt'⟩ fun g1 g2 ⟨a, b, c, d⟩ z => ⟨a, b, z a c, d⟩
  refine store_ok (X := X.sup e) (I2.sup e) hN hi (.inl hk) (v := .ref e) rfl (fun s4 I4 => ?_) (.inr hk)
  refine wpAny_mono (hs pins s4 _ _ _ I4 h) (fun f s5 q => ?_) fun _ _ z => False.elim z
  have go : ∀ {σ5 : St} {H5 : Hp} {f : Flow}, Inv (X.sup e) pins σ5 H5 s5 → (∀ s6, Inv X pins (σ5.set i none) H5 s6 → SP X pins D f s6) → wpAny (model X.prog X.w) X.A (do bindName X.env n .none; unbindBehindTheSuite X.env n hpos) (fun _ s6 => SP X pins D f s6) X.xe s5 :=
    fun I5 k5 => gone_ok (I5.unsup I.ok) hN hi hk fun s6 I6 => k5 s6 I6
  cases f with
  | next => obtain ⟨σ5, H5, I5, q5⟩ := q; exact go I5 fun s6 I6 => ⟨_, H5, I6, q5⟩
  | brk => obtain ⟨σ5, H5, I5, q5⟩ := q; exact go I5 fun s6 I6 => ⟨_, H5, I6, q5⟩
  | cont => obtain ⟨σ5, H5, I5, q5⟩ := q; exact go I5 fun s6 I6 => ⟨_, H5, I6, q5⟩
  | ret u => obtain ⟨v5, σ5, H5, I5, r5, q5⟩ := q; exact go I5 fun s6 I6 => ⟨v5, _, H5, I6, r5, q5⟩
end
end L2

namespace L2
open PySem PySem.Spec PyProof.Rows

/-- an expression whose exceptions come from one callee; E: what is wanted of them -/
noncomputable def PX (X : Cx) (e : Expr) (te : XK → TE) : Prop :=
  ∀ (pins : List (Addr × Obj)) (s : Shared) (σ : St) (H : Hp) (Q : VK) (E : XK) (W : Value → Shared → Prop), Inv X pins σ H s → te E σ H Q →
    (∀ s1 H1 ev s', Inv X pins σ H1 s1 → CX1 X.prog X.w X.stack H1 s1 E ev s' → W ev s') → wpAny (model X.prog X.w) X.A (eval e X.env) (EP X pins σ Q) W s
section
variable {X : Cx} {k : Nat} {f C : Addr} {fd : FuncData} {ps : List Str} {sp : Sp} {dvs : List V} {ds : List Value} {x m : Str} {p pos apos epos cpos : Pos} {e o : Expr} {es : List Expr} {ta : TE} {t : TA}
theorem run_fnW {W : Value → Shared → Prop} {E : XK} {pins : List (Addr × Obj)} {σ : St} {H : Hp} {s : Shared} {Q : VK} {us : List Value} {vs : List V} (F : FnOk X.prog X.w X.K X.mg X.base (CX1 X.prog X.w) k f fd ps sp) (hr : Room k X.A) (hb : Binds X.K fd ps ds) (hd : Vals dvs ds)
    (I : Inv X pins σ H s) (r : Vals vs us) (h : sp (vs ++ dvs) H Q E) (hx : ∀ ev s', CX1 X.prog X.w X.stack H s E ev s' → W ev s') : wpAny (model X.prog X.w) X.A (call (.ref f) us) (EP X pins σ Q) W s := by
  have r2 : Vals (vs ++ dvs) (us ++ ds) := r.append hd
  have hl : (us ++ ds).length = ps.length := by rw [← r2.length]; exact F.len _ _ _ _ h
  refine wpAny_call (codeAny_mono (F.run X.A X.stack s H ⟨us, []⟩ (us ++ ds) (vs ++ dvs) Q E hr I.env0 (hb s us I.kIn hl) r2 h) fun r s' hq => ?_)
  cases r with
  | error ev => exact hx ev s' hq
  | ok fl =>
    cases fl with
    | ret u => exact I.after hq
    | next => exact False.elim hq
    | brk => exact False.elim hq
    | cont => exact False.elim hq
/-- f(e, ..) -/
theorem px_call (F : FnOk X.prog X.w X.K X.mg X.base (CX1 X.prog X.w) k f fd ps sp) (hr : Room k X.A) (hg : Gl X x) (hm : X.mg x = some (.ref f)) (hk : PySem.W.keepIn X.K (.ref f) = true) (hb : Binds X.K fd ps ds) (hd : Vals dvs ds)
    (ha : ∀ W, PA (X.wish W) (e :: es) t) (hdb : (x == ("__debug__" : Str)) = false := by decide) (he : starEach (e :: es) X.env = (false, eval e X.env) :: starEach es X.env := by rfl) (hpl : (backTo pos (starEach es X.env)).any (·.1) = false := by rfl) :
    PX X (.Call (.Name x p) (e :: es) [] pos) (fun E => tCall sp dvs E t) := by
  intro pins s σ H Q E W I h hx
  refine wpAny_Call_Name_kw (ld_glob I hg hm ?_ hdb)
  refine PySem.W.callWith_K (h₀ := X.base) I.ok.mod.kin hk (thn (ha W pos pins s σ H _ (I.wish W) h) fun us s1 ⟨vs, H1, I1, r, q⟩ => ⟨I1.kIn, ?_⟩) he hpl
  exact run_fnW F hr hb hd I1.unwish r q fun ev s' z => hx s1 H1 ev s' I1.unwish z

/-! ### try: one call; one except -/
variable {te : XK → TE} {cx n : Str} {np hpos tpos : Pos} {i : Nat} {b₀ : Stmt} {suite : List Stmt} {ts : TS} {Cc : Addr} {call : Expr}
noncomputable def tTryAs (K : PySem.W.Frag) (Cc : Addr) (i : Nat) (te : XK → TE) (ts : TS) : TS := fun D σ H => te (fun cls dct H' => (∃ C, cls = .ref C ∧ PySem.W.mroIn K C (.ref Cc) = some true) ∧ ∀ e, H' e = none →
    ts { nx := fun σ' H' => D.nx (σ'.set i none) H', rt := D.rt, bk := fun σ' H' => D.bk (σ'.set i none) H', ct := fun σ' H' => D.ct (σ'.set i none) H' } (σ.set i (some (.ref e))) (upd H' e (ExcC e cls dct))) σ H fun _ H1 => D.nx σ H1
theorem body_one {W : Value → Shared → Prop} {Q : Flow → Shared → Prop} {s : Shared} {pins : List (Addr × Obj)} {σ : St} {Q' : VK} (hq : X.env.scope.kind = .function) (h : wpAny (model X.prog X.w) X.A (eval call X.env) (EP X pins σ Q') W s) (k : ∀ s' v H', Inv X pins σ H' s' → Q' v H' → Q .next s')
    (hs : swapsWith call none epos.line X.env = pure false := by rfl) : wpAny (model X.prog X.w) X.A (execs [.Expr call epos] X.env) Q W s := by
  refine wpAny_execs_cons (wpAny_Expr_any (thn h fun v s1 ⟨x, H1, I1, r1, q1⟩ => ?_) (by simp [interactive, hq]) hs)
  exact wpAny_execs_nil (k s1 x H1 I1 q1)
theorem ps_tryAs (hst : X.stack = X.env :: X.outer) (hfr : X.env.frame = some X.env.locals) (hex : X.ex = []) (hc : PX X call te) (cc : CatchC X.K X.mg cx Cc) (hg : Gl X cx)
    (hN : X.N.Nodup) (hi : X.N[i]? = some n) (hk : X.env.scope.names.lookup n = some .local) (hs : ∀ e, PSs (X.sup e) (b₀ :: suite) ts) (hd : (cx == ("__debug__" : Str)) = false := by decide)
    (hsw : swapsWith call none epos.line X.env = pure false := by rfl) :
    PS X (.Try [.Expr call epos] [.ExceptHandler (some (.Name cx np)) (some n) (b₀ :: suite) hpos] [] [] tpos) (tTryAs X.K Cc i te ts) := by
  intro pins s σ H D I h
  refine wpAny_Try_except (body_one I.ok.kind (hc pins s σ H _ _ _ I h fun s1 H1 ev s' I1 z => ?_) (fun s' v H' I' q => ?_) hsw)
  · refine catch_core hst hfr hex I1 z fun e T cls dct H' s3 ee q hHe hHT ae aT nT I3 F3 => ?_
    subst ee
    exact suite_as cc hg hN hi hk (hs e) q.1 hHe hHT ae aT nT I3 F3 (q.2 e hHe) hd
  · exact wpAny_execs_nil ⟨σ, H', I', q⟩
end

section
variable {P : Program} {w : World} {K : PySem.W.Frag} {mg : Str → Option Value} {base : Heap}
/-- THE RULE for a def that may raise -/
theorem Fun.ok1 {x qual : Str} {st : Stmt} {f : Addr} {fd : FuncData} {N ps : List Str} {k : Nat} {sp : Sp} (F : Fun K x qual st f fd) (S : FnScope N ps (defScope st)) (len : ∀ vs H Q E, sp vs H Q E → vs.length = ps.length)
    (hbody : ∀ (cdv : Value) (A : Around) (outer : List Env) (s : Shared) (H : Hp) (vs : List V) (Q : VK) (E : XK), Room k (A.deeper (envOfC qual (defScope st) s.heap.objs.size f cdv)) → sp vs H Q E →
      ∃ t, PSs (cx1 P w K mg base N qual (defScope st) f cdv A outer s H E) (defBody st) t ∧ t { nx := fun _ H' => Q .non H', rt := Q } (start N vs) H) : FnOk P w K mg base (CX1 P w) (k + 1) f fd ps sp := by
  obtain ⟨oc, od, kV, doc, pm, an, cdv, ct, osl, rfl, lk, hcd⟩ := F.ex
  exact fn_of lk hcd S len fun A outer s H vs Q E hr hsp => hbody cdv A outer s H vs Q E hr hsp
end
end L2

set_option maxHeartbeats 4000000
namespace L2
open PySem PySem.Spec PyProof.Rows
open Builtin Builtin.ObjectAttr

section
variable {prog : Program} {w : World} {A : Around} {E : Value → Shared → Prop} {h : Heap} {g : Array GenState} {d : Drawn} {t : Nat} {os : OsState}
variable {nm q : Str} {C N x : Addr} {bs : List Value} {sn : List Str} {sub : List Value} {ab : Bool} {col : Option Bool} {dd : Option Addr} {k0 k1 k2 k3 k5 : Option Value} {newId : String}
  {mN mA : Str → Option Value} {name : Str} {v : Value}


end
end L2

set_option maxHeartbeats 1000000
namespace L2
open PySem PySem.Spec PyProof.Rows
open Builtin Builtin.ObjectAttr

section
variable {prog : Program} {w : World} {A : Around} {E : Value → Shared → Prop} {h : Heap} {g : Array GenState} {d : Drawn} {t : Nat} {os : OsState}
variable {nm q : Str} {C N x : Addr} {bs : List Value} {sn : List Str} {sub : List Value} {ab : Bool} {col : Option Bool} {dd : Option Addr} {k0 k1 k2 k3 k5 : Option Value} {newId : String}
  {mN mA : Str → Option Value} {name : Str} {v : Value}

end
end L2

/-! COMPREHENSIONS over the hand layer: a list of one for, with tests; what the block captures. -/
namespace L2
open PySem PySem.Spec PyProof.Rows

section
variable {prog : Program} {w : World} {A : Around} {R : Result → Shared → Prop} {s : Shared}
theorem comp_loop {elt target iter : Expr} {ifs : List Expr} {scope : Scope} {pos : Pos} {it acc : Value} {env : Env} (I : Nat → Shared → Prop)
    (turn : ∀ n s, I n s → wpAny (model prog w) A (pyNext it) (fun r s1 => match r with
      | none => R (.ok .next) s1
      | some v => wpAny (model prog w) A (letOwnedTupleGo target it v) (fun _ s1' => wpAny (model prog w) A (assign target env v) (fun _ s2 =>
          wpAny (model prog w) A (forIn ifs true fun c r => if r = true then do let ok ← isTrue c env (eval c env); pure (ForInStep.yield ok) else pure (ForInStep.yield r)) (fun ok s3 =>
            if ok = true then wpAny (model prog w) A (eval elt env) (fun x s4 =>
              wpAny (model prog w) A (call (.builtin "list.append") [acc, x]) (fun _ s5 => ∃ m, m < n ∧ I m s5) (notedBy (model prog w) A env fun e s' => R (.error e) s') s4) (notedBy (model prog w) A env fun e s' => R (.error e) s') s3
            else ∃ m, m < n ∧ I m s3) (notedBy (model prog w) A env fun e s' => R (.error e) s') s2) (notedBy (model prog w) A env fun e s' => R (.error e) s') s1') (notedBy (model prog w) A env fun e s' => R (.error e) s') s1) (notedBy (model prog w) A env fun e s' => R (.error e) s') s)
    (n : Nat) (h : I n s) : codeAny (model prog w) A (.compLoop (.ListComp elt [⟨target, iter, ifs, 0⟩] scope pos) 0 it acc env) R s := by
  refine codeAny_loop rfl I (fun n s hI => ?_) n h
  show wpAny _ A ((compTurn (.ListComp elt [⟨target, iter, ifs, 0⟩] scope pos) 0 it acc env).onRaise (fun x => do noteFrame x env; theTreesLotGoes x)) _ _ s
  refine wpAny_noted ?_
  rw [compTurn_list]
  refine wpAny_bind (wpAny_standAt (wpAny_bind (thn (turn n s hI) fun r s1 h1 => ?_)))
  cases r with
  | none => exact wpAny_pure h1
  | some v =>
    refine wpAny_bind (thn h1 fun _ s1' h1' => wpAny_bind (thn h1' fun _ s2 h2 => wpAny_bind (thn h2 fun ok s3 h3 => ?_)))
    cases ok with
    | false => exact wpAny_pure ⟨rfl, h3⟩
    | true => exact wpAny_bind (wpAny_bind (thn h3 fun x s4 h4 => wpAny_bind (thn h4 fun _ s5 h5 => wpAny_pure (wpAny_pure ⟨rfl, h5⟩))))
end

/-- the tests of a comprehension, from the left -/
noncomputable def PIfs (X : Cx) (ifs : List Expr) (t : TT) : Prop :=
  ∀ (pins : List (Addr × Obj)) (s : Shared) (σ : St) (H : Hp) (Q : Bool → Hp → Prop), Inv X pins σ H s → t σ H Q →
    wpAny (model X.prog X.w) X.A (forIn ifs true fun c r => if r = true then do let ok ← isTrue c X.env (eval c X.env); pure (ForInStep.yield ok) else pure (ForInStep.yield r)) (TP X pins σ Q) X.xe s
noncomputable def tNoIf : TT := fun _ H Q => Q true H
theorem pifs_nil {X : Cx} : PIfs X [] tNoIf := by
  intro pins s σ H Q I h
  exact wpAny_pure ⟨H, I, h⟩
theorem pifs_one {X : Cx} {c : Expr} {t : TT} (hc : PT X c t) : PIfs X [c] t := by
  intro pins s σ H Q I h
  show wpAny _ _ (forIn [c] true _) _ _ _
  rw [List.forIn_cons]
  refine wpAny_bind ?_
  rw [if_pos rfl]
  refine wpAny_bind (thn (hc pins s σ H Q I h) fun b s1 q => wpAny_pure ?_)
  exact wpAny_pure q

section
variable {X : Cx} {pins : List (Addr × Obj)} {σ : St} {H : Hp} {s : Shared}
theorem closure_go (env : Env) : ∀ (names : List (Str × NameKind)) (acc : List (Str × Addr)), (∀ y ∈ names, y.2 = .free → ∃ c, env.cells.lookup y.1 = some c) → (∀ x c, acc.lookup x = some c → env.cells.lookup x = some c) →
    ∃ cl, (forIn names acc fun (x : Str × NameKind) (r : List (Str × Addr)) => (match x with | (name, kind) => if (kind == NameKind.free) = true then do let a ← cellOf env name; pure (ForInStep.yield ((name, a) :: r)) else pure (ForInStep.yield r) : Sem (ForInStep (List (Str × Addr))))) = pure cl ∧
      (∀ x c, cl.lookup x = some c → env.cells.lookup x = some c) ∧ (∀ x c, acc.lookup x = some c → ∃ c', cl.lookup x = some c') ∧ ∀ y ∈ names, y.2 = .free → ∃ c, cl.lookup y.1 = some c := by
  intro names
  induction names with
  | nil => exact fun acc _ h2 => ⟨acc, rfl, h2, fun x c e => ⟨c, e⟩, fun y hy => by simp at hy⟩
  | cons p r ih =>
    intro acc h1 h2
    obtain ⟨n, k⟩ := p
    rw [List.forIn_cons]
    by_cases hk : k = .free
    · subst hk
      obtain ⟨c, hc⟩ := h1 (n, .free) List.mem_cons_self rfl
      obtain ⟨cl, e1, e2, e3, e4⟩ := ih ((n, c) :: acc) (fun y hy => h1 y (List.mem_cons_of_mem _ hy)) (fun x c' e => by
        rw [List.lookup_cons] at e
        cases hx : x == n with
        | true =>
          rw [hx] at e
          have : x = n := by simpa using hx
          subst this
          cases e
          exact hc
        | false =>
          rw [hx] at e
          exact h2 x c' e)
      refine ⟨cl, ?_, e2, fun x c' e => ?_, fun y hy hf => ?_⟩
      · have hcell : cellOf env n = pure c := by simp only [cellOf, hc]
        simp only [beq_self_eq_true, if_true, hcell, pure_bind]
        exact e1
      · cases hx : x == n with
        | true => exact e3 x c (by rw [List.lookup_cons, hx])
        | false => exact e3 x c' (by rw [List.lookup_cons, hx]; exact e)
      · rcases List.mem_cons.mp hy with rfl | hy
        · exact e3 n c (by rw [List.lookup_cons]; simp)
        · exact e4 y hy hf
    · obtain ⟨cl, e1, e2, e3, e4⟩ := ih acc (fun y hy => h1 y (List.mem_cons_of_mem _ hy)) h2
      refine ⟨cl, ?_, e2, e3, fun y hy hf => ?_⟩
      · have hb : (k == NameKind.free) = false := by simpa using hk
        simp only [hb, Bool.false_eq_true, if_false, pure_bind]
        exact e1
      · rcases List.mem_cons.mp hy with rfl | hy
        · exact absurd hf hk
        · exact e4 y hy hf
theorem closure_of {env : Env} {scope : Scope} (h : ∀ y ∈ scope.names, y.2 = .free → ∃ c, env.cells.lookup y.1 = some c) :
    ∃ cl, closureFor scope env = pure cl ∧ (∀ x c, cl.lookup x = some c → env.cells.lookup x = some c) ∧ ∀ y ∈ scope.names, y.2 = .free → ∃ c, cl.lookup y.1 = some c := by
  obtain ⟨cl, e1, e2, _, e4⟩ := closure_go env scope.names [] h (fun x c e => by simp at e)
  refine ⟨cl, ?_, e2, e4⟩
  unfold closureFor
  show (forIn scope.names [] _ >>= fun r => pure r) = pure cl
  rw [show ∀ m : Sem (List (Str × Addr)), (m >>= fun r => pure r) = m from fun m => bind_pure m]
  exact e1
end
end L2

namespace L2
open PySem PySem.Spec PyProof.Rows

/-- a comprehension's block: its own names are put into a new map at C, the names around are cells -/
noncomputable def Cx.blk (X : Cx) (scope : Scope) (N : List Str) (cl : List (Str × Addr)) (C : Addr) (s : Shared) (H : Hp) (fp : List Addr) (pins : List (Addr × Obj)) : Cx where
  prog := X.prog
  w := X.w
  K := X.K
  mg := X.mg
  base := X.base
  A := X.A
  N := N
  s₀ := s
  H₀ := H
  env := compEnvC scope cl C X.env
  outer := X.stack
  stack := X.stack
  ex := fp
  fn := fun _ => false
  calm := X.calm
  pn := X.pn ++ pins
  xe := fun _ _ => False

/-- k names of its own, and those around in the slots at is -/
noncomputable def capsOf (k : Nat) (is : List Nat) (σ : St) : St := List.replicate k none ++ is.map fun i => (σ[i]?).join

theorem lookup_relabel {env : Env} : ∀ {names : List (Str × NameKind)} {x : Str} {k : NameKind},
    (names.map fun (n, k) => if (k == NameKind.free && env.scope.kind == .function && env.kindOf n == some .cell) then (n, NameKind.cell) else (n, k)).lookup x = some k → ∃ k0, (x, k0) ∈ names ∧ (k0 = k ∨ k0 = .free) := by
  intro names
  induction names with
  | nil => intro x k h; simp at h
  | cons p r ih =>
    obtain ⟨n, k0⟩ := p
    intro x k h
    rw [List.map_cons] at h
    have st : ∃ k1, (if (k0 == NameKind.free && env.scope.kind == .function && env.kindOf n == some .cell) = true then (n, NameKind.cell) else (n, k0)) = (n, k1) ∧ (k1 = k0 ∨ k0 = .free) := by
      split
      · rename_i hc
        refine ⟨_, rfl, .inr ?_⟩
        simp only [Bool.and_eq_true, beq_iff_eq] at hc
        exact hc.1.1
      · exact ⟨_, rfl, .inl rfl⟩
    obtain ⟨k1, e1, e2⟩ := st
    simp only at h
    rw [e1, List.lookup_cons] at h
    cases hx : x == n with
    | true =>
      rw [hx] at h
      have : x = n := by simpa using hx
      subst this
      cases h
      refine ⟨k0, List.mem_cons_self, ?_⟩
      rcases e2 with e2 | e2
      · exact .inl e2.symm
      · exact .inr e2
    | false =>
      rw [hx] at h
      obtain ⟨k2, m, z⟩ := ih h
      exact ⟨k2, List.mem_cons_of_mem _ m, z⟩

/-- what a comprehension's scope must be, as it lies in the text -/
structure BlkScope (X : Cx) (scope : Scope) (own capn : List Str) (capI : List Nat) : Prop where
  kind : scope.kind = .function
  cell : ∀ y ∈ scope.names, y.2 ≠ .cell
  names : ∀ y ∈ scope.names, y.2 = .local → scope.names.lookup y.1 = some .local
  free : ∀ y ∈ scope.names, y.2 = .free → X.env.scope.names.lookup y.1 = some .cell
  caps : capI.map (fun i => X.N[i]?) = capn.map some
  capc : ∀ y ∈ capn, X.env.scope.names.lookup y = some .cell ∧ (relabel scope X.env).names.lookup y = some .cell

section
variable {X : Cx} {pins : List (Addr × Obj)} {σ : St} {H : Hp} {s : Shared}
/-- at the block's beginning -/
theorem blk_start {scope : Scope} {own capn : List Str} {capI : List Nat} {cl : List (Str × Addr)} {fp : List Addr} {h' : Heap} {t' : Nat} (B : BlkScope X scope own capn capI) (I : Inv X pins σ H s) (hf : ∀ b ∈ fp, FpOk X pins H b) (ho : ∀ b ∈ fp, ∃ o, s.heap.get? b = some o)
    (hcl : ∀ x c, cl.lookup x = some c → X.env.cells.lookup x = some c) (hcf : ∀ y ∈ scope.names, y.2 = .free → ∃ c, cl.lookup y.1 = some c)
    (hn : h'.Ns s.heap.objs.size (fun _ => none)) (hk : ∀ b o, s.heap.get? b = some o → h'.get? b = some o) :
    Inv (X.blk scope (own ++ capn) cl s.heap.objs.size s H fp pins) [] (capsOf own.length capI σ) H { s with heap := h', toks := t' } := by
  have lt : ∀ b o, s.heap.get? b = some o → b ≠ s.heap.objs.size := fun b o e => Nat.ne_of_lt (Heap.lt_size e)
  have hkind : ∀ x, ((relabel scope X.env).names.lookup x = some .cell ∨ (relabel scope X.env).names.lookup x = some .free) → ∃ c, cl.lookup x = some c := fun x hx => by
    have z : ∃ k, (k = .cell ∨ k = .free) ∧ (relabel scope X.env).names.lookup x = some k := by
      rcases hx with hx | hx
      · exact ⟨_, .inl rfl, hx⟩
      · exact ⟨_, .inr rfl, hx⟩
    obtain ⟨k, hk, hx⟩ := z
    obtain ⟨k0, m, z⟩ := lookup_relabel (env := X.env) hx
    have : k0 = .free := by
      rcases z with z | z
      · rcases hk with hk | hk
        · exact absurd (z.trans hk) (B.cell _ m)
        · exact z.trans hk
      · exact z
    exact hcf _ m this
  have nfs : ∀ b, b ≠ X.env.locals → b ∉ X.fs → b ∉ frs X.stack := fun b h1 h2 z => by
    rcases List.mem_cons.mp (I.stkSub b z) with z | z
    · exact h1 z
    · exact h2 z
  have cellAt : ∀ x c, cl.lookup x = some c → ∃ v o, s.heap.get? c = some o ∧ o.data = .cell v := fun x c e => by
    obtain ⟨v, o, ho, hd⟩ := I.cell x c (hcl x c e)
    exact ⟨v, o, ho, hd⟩
  have ok : (X.blk scope (own ++ capn) cl s.heap.objs.size s H fp pins).Ok := by
    refine ⟨I.ok.mod, B.kind, I.ok.glob, I.ok.blt, Nat.le_refl _, fun x y c e1 e2 => I.ok.inj x y c (hcl x c e1) (hcl y c e2), fun x hx => hkind x hx, (fun x c e => absurd (show false = true from e) (by decide)), I.ok.hd, I.ok.frames, .inl rfl, fun b hb => ?_, I.bs, Nat.le_trans I.ok.bsz I.sz, fun b o e hb => ?_, fun b hb => ?_, I.stack, fun b hb => I.stkFree b hb⟩
    · obtain ⟨o, e⟩ := ho b hb
      exact ⟨lt b o e, fun x c ec => (hf b hb).2.2.2.2.1 x c (hcl x c ec)⟩
    · rcases (hf b hb).2.2.2.1 with z | z
      · exact I.ok.noex b o e z
      · exact absurd (Nat.lt_of_lt_of_le (Heap.lt_size (I.ok.bs b o e).1) z) (Nat.lt_irrefl _)
    · exact nfs b (hf b hb).2.1 (hf b hb).2.2.1
  refine ⟨ok, rfl, I.bare, Un.kept hk, ⟨_, hn, fun i x v e1 e2 e3 => ?_⟩, fun x c e => ?_, I.hok.fresh (Nat.le_refl _), fun x c e => I.freeC x c (hcl x c e), fun p hp => ?_, I.hok.kept hk, ?_⟩
  · unfold capsOf at e2
    have hi : own.length ≤ i := by
      by_cases h : own.length ≤ i
      · exact h
      · rw [List.getElem?_append_left (by simpa using h), List.getElem?_replicate] at e2
        split at e2 <;> cases e2
    rw [List.getElem?_append_right (by simpa using hi), List.length_replicate, List.getElem?_map] at e2
    have e1' : (own ++ capn)[i]? = some x := e1
    rw [List.getElem?_append_right hi] at e1'
    cases hc : capI[i - own.length]? with
    | none => rw [hc] at e2; cases e2
    | some j =>
      rw [hc] at e2
      have e4 : (σ[j]?).join = some v := by simpa using e2
      have e5 : σ[j]? = some (some v) := by
        cases q : σ[j]? with
        | none => rw [q] at e4; cases e4
        | some o => rw [q] at e4; cases o with | none => cases e4 | some v' => cases e4; rfl
      have e6 : X.N[j]? = some x := by
        have z := congrArg (fun l => l[i - own.length]?) B.caps
        simp only [List.getElem?_map, hc, e1', Option.map_some] at z
        exact Option.some.inj z
      have cx := B.capc x (List.mem_of_getElem? e1')
      obtain ⟨m, hm, hl⟩ := I.loc
      obtain ⟨u, r, l⟩ := hl j x v e6 e5 (.inr (.inl cx.1))
      refine ⟨u, r, .inr ?_⟩
      obtain ⟨c', hc'⟩ := hkind x (.inl cx.2)
      have hc2 := hcl x c' hc'
      rcases l with ⟨k, _⟩ | ⟨_, c, ec, o, hoc, hdc⟩
      · have k' : X.env.scope.names.lookup x = some .local := k
        rw [cx.1] at k'
        cases k'
      · rw [hc2] at ec
        cases ec
        exact ⟨.inl cx.2, c', hc', o, hk _ _ hoc, hdc⟩
  · obtain ⟨v, o, hoc, hd⟩ := cellAt x c e
    exact ⟨v, o, hk _ _ hoc, hd⟩
  · have hp' : p ∈ X.pn ++ pins := by
      have z : p ∈ (X.pn ++ pins) ++ [] := hp
      simpa using z
    obtain ⟨e, n, ne, nf, d⟩ := I.pin p hp'
    exact ⟨hk _ _ e, n, lt _ _ e, nfs _ ne nf, d⟩
  · show (List.replicate own.length none ++ capI.map _).length = (own ++ capn).length
    have z := congrArg List.length B.caps
    simp only [List.length_map] at z
    simp [z]
end
end L2

namespace L2
open PySem PySem.Spec PyProof.Rows

/-- [elt for target in iter if ..]: W is the invariant, by the turn and a measure, over the block's names, the items so far, the heap -/
noncomputable def tLC (wi : TI) (k : Nat) (capI : List Nat) (g : TG) (tt : TT) (te : TE) : TE := fun σ H Q => wi σ H fun J H1 => ∀ D, H1 D = none → ∃ W : Nat → Nat → St → List V → Hp → Prop, (∃ m, W 0 m (capsOf k capI σ) [] (upd H1 D (.lst []))) ∧
  ∀ i m σ' acc H, W i m σ' acc H → (J.stop i H ∧ Q (.ref D) H) ∨ (J.go i H ∧ ∀ x H', J.yld i H x H' → g x σ' H' fun σ2 H2 => tt σ2 H2 fun b H3 =>
    if b = true then te σ2 H3 fun y H4 => H4 D = some (.lst acc) ∧ acc.length < sizeLine ∧ ∃ m', m' < m ∧ W (i + 1) m' σ2 (acc ++ [y]) (upd H4 D (.lst (acc ++ [y]))) else ∃ m', m' < m ∧ W (i + 1) m' σ2 acc H3)

section
variable {X : Cx} {pins : List (Addr × Obj)} {σ : St} {H : Hp} {s : Shared}
/-- behind the block -/
theorem blk_end {scope : Scope} {N : List Str} {cl : List (Str × Addr)} {fp : List Addr} {h' : Heap} {σ' : St} {H' : Hp} {s' : Shared} (I : Inv X pins σ H s) (hf : ∀ b ∈ fp, FpOk X pins H b)
    (J : Inv (X.blk scope N cl s.heap.objs.size s H fp pins) [] σ' H' s') (hs : Heap.SameBut s.heap.objs.size s'.heap h') : Inv X pins σ H' { s' with heap := h' } := by
  have B := J.base
  have ne : ∀ b o, s.heap.get? b = some o → b ≠ s.heap.objs.size := fun b o e => Nat.ne_of_lt (Heap.lt_size e)
  have u : Un (frs X.stack) fp H H' s.heap h' := ⟨fun b o e n h1 h2 => (hs.2 b (ne b o e)).trans (B.keep b o e n h1 h2), fun b o e n h1 h2 => by
      obtain ⟨sl, z⟩ := B.slot b o e n h1 h2
      exact ⟨sl, (hs.2 b (ne b o e)).trans z⟩, B.free, fun b o e h2 => by
      obtain ⟨o', z⟩ := B.there b o e h2
      exact ⟨o', (hs.2 b (ne b o e)).trans z⟩, B.tups, B.frzs, B.tbls⟩
  have hok : HOk X.prog X.w H' h' := fun b o e => by
    refine (J.hok b o e).stay (fun c v hc q => (hs.2 c ?_).trans q) (fun _ z => z) fun _ _ z => z
    have fr : H' s.heap.objs.size = none := J.free
    rintro rfl
    rcases hc with z | z
    · rw [← z, fr] at e
      cases e
    · rw [fr] at z
      cases z
  exact I.call' (s' := { s' with heap := h' }) (ch := fp) J.os u hok J.bare fun b hb => ⟨(hf b hb).2.2.2.1, (hf b hb).2.1, (hf b hb).2.2.2.2.1, (hf b hb).2.2.2.2.2⟩

variable {elt iter tg : Expr} {ifs : List Expr} {scope : Scope} {pos : Pos} {own capn : List Str} {capI : List Nat} {wi : TI} {g : TG} {tt : TT} {te : TE}
theorem pe_lc (hc : X.calm = true) (B : BlkScope X scope own capn capI) (hi : PI X tg iter wi) (hg : ∀ cl C s H fp pins, PG (X.blk scope (own ++ capn) cl C s H fp pins) tg g)
    (ht : ∀ cl C s H fp pins, PIfs (X.blk scope (own ++ capn) cl C s H fp pins) ifs tt) (he : ∀ cl C s H fp pins, PE (X.blk scope (own ++ capn) cl C s H fp pins) elt te)
    (hs : ∀ x, foldedSetIterable iter X.env x = pure x := by intro _; rfl) : PE X (.ListComp elt [⟨tg, iter, ifs, 0⟩] scope pos) (tLC wi own.length capI g tt te) := by
  intro pins s σ H Q I h
  rw [eval_ListComp]
  obtain ⟨cl, hclos, hcl, hcf⟩ := closure_of (env := X.env) (scope := scope) (fun y hy hf => I.ok.has y.1 (.inl (B.free y hy hf)))
  refine wpAny_comprehension_free (use := none) rfl hs hclos B.kind B.names (thn (hi pins s σ H _ I h) fun v s1 h1 => thn h1 fun itv s2 h2 => ?_)
  obtain ⟨it, fp, tn, J, H2, e, I2, T, st2, f2, hW⟩ := h2
  subst e
  obtain ⟨W, ⟨m0, w0⟩, turn⟩ := hW s2.heap.objs.size (I2.hok.fresh (Nat.le_refl _))
  refine wpAny_newObj_type (wpAny_newFunctionEnv B.cell (by intro y hy; simp at hy) (fun h4 hns hsb => ?_) B.kind)
  dsimp only at hns hsb ⊢
  have I3 : Inv X pins σ (upd H2 s2.heap.objs.size (.lst [])) { s2 with heap := s2.heap.push { cls := .type "list", dict := none, data := .seq ([] : List Value).toArray } } :=
    I2.laid (t' := s2.toks) (fun b u e => Heap.get?_push_of_some _ e) (Nat.le_refl _) ⟨Nat.zero_le _, [], 0, .nil, Heap.get?_push_size _ rfl⟩
  generalize hs3 : ({ s2 with heap := s2.heap.push { cls := .type "list", dict := none, data := .seq ([] : List Value).toArray } } : Shared) = s3 at I3
  have e3 : s2.heap.push { cls := .type "list", dict := none, data := .seq ([] : List Value).toArray } = s3.heap := by rw [← hs3]
  have ob2 : ∀ b ∈ fp, ∃ o, s2.heap.get? b = some o := fun b hb => let ⟨o, z, _⟩ := T.obj _ _ st2 b hb; ⟨o, z⟩
  have up3 : ∀ b o, s2.heap.get? b = some o → s3.heap.get? b = some o := fun b o z => by
    rw [← e3]
    exact Heap.get?_push_of_some _ z
  have f3 : ∀ b ∈ fp, FpOk X pins (upd H2 s2.heap.objs.size (.lst [])) b := fun b hb => by
    obtain ⟨o, z⟩ := ob2 b hb
    exact ⟨by rw [upd_ne (Nat.ne_of_lt (Heap.lt_size z))]; exact (f2 b hb).1, (f2 b hb).2⟩
  have ob3 : ∀ b ∈ fp, ∃ o, s3.heap.get? b = some o := fun b hb => let ⟨o, z⟩ := ob2 b hb; ⟨o, up3 b o z⟩
  rw [e3] at hns hsb ⊢
  have up4 : ∀ b o, s3.heap.get? b = some o → h4.get? b = some o := fun b o z => (hsb.2 b (Nat.ne_of_lt (Heap.lt_size z))).trans (Heap.get?_push_of_some _ z)
  have IB := blk_start (t' := s2.toks + ([] : List (Str × Value)).length) B I3 f3 ob3 hcl hcf hns up4
  have e4 : ({ s3 with heap := h4, toks := s2.toks + ([] : List (Str × Value)).length } : Shared) = { s2 with heap := h4, toks := s2.toks + ([] : List (Str × Value)).length } := by rw [← hs3]
  rw [e4] at IB
  have tn4 : tn 0 h4 := T.keep _ _ _ st2 fun b hb o z => up4 b o (up3 b o z)
  have fst : ∀ {H' : Hp}, (∀ b ∈ fp, H' b = none) → ∀ b ∈ fp, FpOk (X.blk scope (own ++ capn) cl s3.heap.objs.size s3 (upd H2 s2.heap.objs.size (.lst [])) fp pins) [] H' b := fun {H'} hn b hb => by
    obtain ⟨o, z⟩ := ob3 b hb
    refine ⟨hn b hb, Nat.ne_of_lt (Heap.lt_size z), fun y => ?_, .inl hb, fun x c ec => (f3 b hb).2.2.2.2.1 x c (hcl x c ec), fun p hp => (f3 b hb).2.2.2.2.2 p (by have y : p ∈ (X.pn ++ pins) ++ [] := hp; simpa using y)⟩
    rcases List.mem_cons.mp (I3.stkSub b y) with y | y
    · exact (f3 b hb).2.1 y
    · exact (f3 b hb).2.2.1 y
  have loop : codeAny (model X.prog X.w) X.A (.compLoop (.ListComp elt [⟨tg, iter, ifs, 0⟩] scope pos) 0 (.ref it) (.ref s2.heap.objs.size) (compEnvC scope cl s3.heap.objs.size X.env))
      (compPost (model X.prog X.w) X.A X.xe none (EP X pins σ Q) (.ref s2.heap.objs.size) s3.heap.objs.size) { s2 with heap := h4, toks := s2.toks + ([] : List (Str × Value)).length } := by
    refine comp_loop (fun n s' => ∃ i σ' acc H', Inv (X.blk scope (own ++ capn) cl s3.heap.objs.size s3 (upd H2 s2.heap.objs.size (.lst [])) fp pins) [] σ' H' s' ∧ tn i s'.heap ∧ (∀ b ∈ fp, H' b = none) ∧ W i n σ' acc H') ?_ m0 ⟨0, _, [], _, IB, tn4, fun b hb => (f3 b hb).1, w0⟩
    rintro n s5 ⟨i, σ5, acc, H5, I5, st5, fr5, w5⟩
    have no : ∀ {α : Type} {t : Sem α} {Q : α → Shared → Prop} {E : Value → Shared → Prop} {s : Shared}, wpAny (model X.prog X.w) X.A t Q (fun _ _ => False) s → wpAny (model X.prog X.w) X.A t Q E s := fun z => wpAny_mono z (fun _ _ y => y) fun _ _ y => y.elim
    rcases turn i n σ5 acc H5 w5 with ⟨stop, qn⟩ | ⟨go, step⟩
    · refine no (thn (T.done (X.blk scope (own ++ capn) cl s3.heap.objs.size s3 (upd H2 s2.heap.objs.size (.lst [])) fp pins) rfl rfl rfl hc i [] s5 σ5 H5 _ I5 (fst fr5) st5 stop) fun r s6 ⟨hr, I6⟩ => ?_)
      subst hr
      obtain ⟨m, hm, _⟩ := id I6.loc
      exact ⟨m, hm, fun h' hs' => ⟨.ref s2.heap.objs.size, H5, blk_end I3 f3 I6 hs', rfl, qn⟩⟩
    · refine no (thn (T.item (X.blk scope (own ++ capn) cl s3.heap.objs.size s3 (upd H2 s2.heap.objs.size (.lst [])) fp pins) rfl rfl rfl hc i [] s5 σ5 H5 _ I5 (fst fr5) st5 go) fun r s6 ⟨u, hr, h6⟩ => ?_)
      subst hr
      refine no (thn h6 fun _ s7 ⟨x, H7, I7, r7, y7, st7, fr7⟩ => ?_)
      have I7' := I7.pinned (fst fr7) (T.obj _ _ st7)
      have kp : ∀ {σ8 : St} {H8 : Hp} {s8 : Shared}, Inv (X.blk scope (own ++ capn) cl s3.heap.objs.size s3 (upd H2 s2.heap.objs.size (.lst [])) fp pins) ([] ++ pinsAt fp s7.heap) σ8 H8 s8 → tn (i + 1) s8.heap ∧ ∀ b ∈ fp, H8 b = none := fun {σ8 H8 s8} I8 => by
        refine ⟨T.keep _ _ _ st7 fun b hb o z => (I8.pin (b, o) (List.mem_append_right _ (List.mem_append_right _ (mem_pinsAt hb z)))).1, fun b hb => ?_⟩
        obtain ⟨o, z, d⟩ := T.obj _ _ st7 b hb
        exact (I8.pin (b, o) (List.mem_append_right _ (List.mem_append_right _ (mem_pinsAt hb z)))).2.1
      refine no (thn (hg cl s3.heap.objs.size s3 _ fp pins _ s7 σ5 H7 x u _ I7' r7 (step x H7 y7)) fun _ s8 ⟨σ8, H8, I8, q8⟩ => ?_)
      refine no (thn (ht cl s3.heap.objs.size s3 _ fp pins _ s8 σ8 H8 _ I8 q8) fun b s9 ⟨H9, I9, q9⟩ => ?_)
      cases b with
      | false =>
        obtain ⟨m', hm, w9⟩ := q9
        exact ⟨m', hm, i + 1, σ8, acc, H9, I9.unpinned, (kp I9).1, (kp I9).2, w9⟩
      | true =>
        refine no (thn (he cl s3.heap.objs.size s3 _ fp pins _ s9 σ8 H9 _ I9 q9) fun y s10 ⟨yv, H10, I10, r10, hD, hz, m', hm, w10⟩ => ?_)
        refine no (thn (mt_append _ s10 σ8 H10 (.ref s2.heap.objs.size) [yv] (.ref s2.heap.objs.size) [y] (fun v H11 => v = .non ∧ H11 = upd H10 s2.heap.objs.size (.lst (acc ++ [yv]))) I10 rfl (.cons r10 .nil) ⟨_, acc, yv, rfl, rfl, hD, hz, rfl, rfl⟩) fun _ s11 ⟨_, H11, I11, _, _, e11⟩ => ?_)
        subst e11
        exact ⟨m', hm, i + 1, σ8, acc ++ [yv], _, I11.unpinned, (kp I11).1, (kp I11).2, w10⟩
  exact codeAny_compStart_list loop (T.self _ 0 _ _ _ tn4 loop)
end
end L2

namespace L2
open PySem PySem.Spec PyProof.Rows




section
variable {X : Cx} {x a : Str} {C fI : Addr} {o value : Expr} {pos pos' : Pos} {ta tv : TE} {mg : Str → Option Value}

end
end L2

set_option maxHeartbeats 1000000
namespace L2
open PySem PySem.Spec PyProof.Rows

section
variable {M : Model} {A : Around} {E : Value → Shared → Prop} {env : Env}
variable {nm q : Str} {C N : Addr} {bs bm : List Value} {hdct : Bool} {sn : List Str} {sub : List Value} {ab : Bool} {col : Option Bool} {dd : Option Addr} {k0 k1 k2 k3 k5 : Option Value} {newId : String}
end

section
variable {P : Program} {w : World} {K : PySem.W.Frag} {mg : Str → Option Value} {base : Heap} {N : List Str} {qual : Str} {scope : Scope} {f : Addr} {cd : Value} {A : Around} {outer : List Env} {s₀ : Shared} {H₀ : Hp} {E : XK}
end

section
variable {X : Cx} {x a : Str} {C fI : Addr} {np cpos pos : Pos} {E : XK} {e₀ : Expr} {rest : List Expr} {t : TA} {k : Nat} {fd : FuncData} {ps : List Str} {sp : Sp}
end
end L2

set_option maxHeartbeats 1000000
/-! dict(a list of pairs) -/
namespace L2
open PySem PySem.Spec PyProof.Rows


end L2

set_option maxHeartbeats 1000000
namespace L2
open PySem PySem.Spec PyProof.Rows
section
variable {prog : Program} {w : World} {K : Type} [DecidableEq K] {knd : KeyKind prog w K} {A : Around}



end
end L2

set_option maxHeartbeats 1000000
namespace L2
open PySem PySem.Spec PyProof.Rows

/-! ### dict(..) -/
section
variable {X : Cx}

/-- a dict that stands at the text's top -/
noncomputable def DkK (P : Program) (w : World) (K : PySem.W.Frag) (a : Addr) (kvs : List (Key × V)) : Prop := (a == sysModules) = false ∧ kvs.length ≤ sizeLine ∧ ∃ vs, KV kvs vs ∧ ∀ h : Heap, K.In h → h.DictOf (mixKind P w) a vs

/-! ### isinstance(x, T), T a built-in type -/

/-! ### // by a divisor of up to 64 bits -/
end

/-! ### data: a value without anything that may change -/
mutual
inductive Rp (K : PySem.W.Frag) (H : Hp) : V → PyData → Prop
  | non : Rp K H .non .none
  | bl (b : Bool) : Rp K H (.bl b) (.bool b)
  | int (i : Int) : Rp K H (.int i) (.int i)
  | str (x : Str) : Rp K H (.str x) (.str x)
  | tup {a : Addr} {xs : List V} {ds : List PyData} : SqT K H a xs → Rps K H xs ds → Rp K H (.ref a) (.tuple ds)
  | lst {a : Addr} {xs : List V} {ds : List PyData} : SqL K H a xs → Rps K H xs ds → Rp K H (.ref a) (.list ds)
inductive Rps (K : PySem.W.Frag) (H : Hp) : List V → List PyData → Prop
  | nil : Rps K H [] []
  | cons {x : V} {d : PyData} {xs : List V} {ds : List PyData} : Rp K H x d → Rps K H xs ds → Rps K H (x :: xs) (d :: ds)
end
theorem Same.sqT {K : PySem.W.Frag} {H H' : Hp} {a : Addr} {xs : List V} (e : Same H H') (h : SqT K H a xs) : SqT K H' a xs := by
  rcases h with (h | ⟨o, h⟩) | h
  · exact .inl (.inl (e _ _ h))
  · exact .inl (.inr ⟨o, e _ _ h⟩)
  · exact .inr h
theorem Rp.same {K : PySem.W.Frag} {H H' : Hp} (s : Same H H') {v : V} {d : PyData} (h : Rp K H v d) : Rp K H' v d :=
  Rp.rec (motive_1 := fun v d _ => Rp K H' v d) (motive_2 := fun v d _ => Rps K H' v d) .non .bl .int .str (fun h _ r => .tup (s.sqT h) r) (fun h _ r => .lst (s.seq h) r) .nil (fun _ _ a b => .cons a b) h
section
variable {X : Cx} {pins : List (Addr × Obj)} {σ : St} {H : Hp} {s : Shared}
theorem Rp.reads (I : Inv X pins σ H s) {v : V} {d : PyData} {u : Value} (h : Rp X.K H v d) (r : RelV v u) : ∃ as, Reads s.heap u d as := by
  refine Rp.rec (motive_1 := fun v d _ => ∀ u, RelV v u → ∃ as, Reads s.heap u d as) (motive_2 := fun v d _ => ∀ u, Vals v u → ∃ as, ReadsAll s.heap u d as) ?_ ?_ ?_ ?_ ?_ ?_ ?_ ?_ h u r
  · intro u r; cases (show _ = Value.none from r); exact ⟨_, Reads.none⟩
  · intro b u r; cases (show _ = Value.bool b from r); exact ⟨_, Reads.bool b⟩
  · intro i u r; obtain ⟨t, rfl⟩ := r; exact ⟨_, Reads.int i t⟩
  · intro x u r; obtain ⟨t, rfl⟩ := r; exact ⟨_, Reads.str x t⟩
  · intro a xs ds h q ih u r
    cases (show _ = Value.ref _ from r)
    obtain ⟨its, rv, ⟨o, e, c, n, d⟩, _⟩ := I.tuple h
    obtain ⟨as, z⟩ := ih _ rv
    exact ⟨as, reads_tuple_at e c d (by simpa using z)⟩
  · intro a xs ds h q ih u r
    cases (show _ = Value.ref _ from r)
    obtain ⟨its, rv, ⟨o, n, e, c, _, d⟩, _⟩ := I.list h
    obtain ⟨as, z⟩ := ih _ rv
    exact ⟨_, reads_list_at e c d (by simpa using z)⟩
  · intro u r; cases r; exact ⟨_, ReadsAll.nil⟩
  · intro x d xs ds h q i1 i2 u r
    cases r with
    | cons r t =>
      obtain ⟨as, a⟩ := i1 _ r
      obtain ⟨bs, b⟩ := i2 _ t
      exact ⟨_, ReadsAll.cons a b⟩
/-- == and != of data -/
noncomputable def rEqD (K : PySem.W.Frag) (neg : Bool) : R2 := fun x y H Q => ∃ d e, Rp K H x d ∧ Rp K H y e ∧ SeqAt.shaped d = true ∧ SeqAt.shaped e = true ∧ Q (.bl (if neg then !PyData.eqv d e else PyData.eqv d e)) H
theorem op_eqD (hu : X.A.units + 64 < cLine) : OpR X (compareOp .Eq) (rEqD X.K false) := by
  intro pins s σ H x y v u Q I rx ry h
  obtain ⟨d, e, hd, he, sd, se, q⟩ := h
  obtain ⟨as, ra⟩ := hd.reads I rx
  obtain ⟨bs, rb⟩ := he.reads I ry
  exact eq_dataH ra rb sd se hu ⟨.bl _, H, I, rfl, q⟩
theorem op_neD (hu : X.A.units + 64 < cLine) : OpR X (compareOp .NotEq) (rEqD X.K true) := by
  intro pins s σ H x y v u Q I rx ry h
  obtain ⟨d, e, hd, he, sd, se, q⟩ := h
  obtain ⟨as, ra⟩ := hd.reads I rx
  obtain ⟨bs, rb⟩ := he.reads I ry
  exact ne_dataH ra rb sd se hu ⟨.bl _, H, I, rfl, q⟩
end

/-! ### defs, methods, classes in one word each -/
structure Fn (P : Program) (w : World) (K : PySem.W.Frag) (mg : Str → Option Value) (base : Heap) (x : Str) (k : Nat) (ps : List Str) (sp : Sp) : Prop where
  ex : ∃ f fd, FnOk P w K mg base (CX1 P w) k f fd ps sp ∧ mg x = some (.ref f) ∧ PySem.W.keepIn K (.ref f) = true ∧ Binds K fd ps []
structure Mt (P : Program) (w : World) (K : PySem.W.Frag) (mg : Str → Option Value) (base : Heap) (C : Addr) (m : Str) (k : Nat) (ps : List Str) (sp : Sp) : Prop where
  ex : ∃ f fd, FnOk P w K mg base (CX1 P w) k f fd ps sp ∧ Meth K C m f ∧ Cls K C ∧ Binds K fd ps []
structure Mc (P : Program) (w : World) (K : PySem.W.Frag) (mg : Str → Option Value) (base : Heap) (x : Str) (C : Addr) (k : Nat) (ps : List Str) (sp : Sp) : Prop where
  ex : ∃ f fd, FnOk P w K mg base (CX1 P w) k f fd ps sp ∧ Mk K C f ∧ mg x = some (.ref C) ∧ Binds K fd ps []
section
variable {X : Cx} {k : Nat} {C : Addr} {ps : List Str} {sp : Sp} {E : XK} {x m : Str} {p pos apos : Pos} {e o : Expr} {es : List Expr} {ta : TE} {t : TA}
theorem pf_call (F : Fn X.prog X.w X.K X.mg X.base x k ps sp) (hr : Room k X.A) (hg : Gl X x) (hx : Passes (CX1 X.prog X.w) X E) (ha : PA X (e :: es) t) (hdb : (x == ("__debug__" : Str)) = false := by decide)
    (he : starEach (e :: es) X.env = (false, eval e X.env) :: starEach es X.env := by rfl) (hpl : (backTo pos (starEach es X.env)).any (·.1) = false := by rfl) : PE X (.Call (.Name x p) (e :: es) [] pos) (tCall sp [] E t) := by
  obtain ⟨f, fd, ok, mgf, kp, bi⟩ := F.ex
  exact pe_call ok hr hg mgf kp bi .nil hx ha hdb he hpl
theorem pf_meth {pl : Sem Bool} (F : Mt X.prog X.w X.K X.mg X.base C m k ps sp) (ho : PE X o ta) (hr : Room k X.A) (hx : Passes (CX1 X.prog X.w) X E) (ha : PA X (e :: es) t)
    (hst : starEach (e :: es) X.env = (false, eval e X.env) :: starEach es X.env := by rfl) (hpl : (backTo pos (starEach es X.env)).any (·.1) = false := by rfl)
    (ht : eval (.Call (.Attribute o m apos) (e :: es) [] pos) X.env = (do
      let ov ← eval o X.env
      standAt apos.atName
      let (f, first) ← holding [ov] (getMethod ov m pl)
      callWith pos f first (backTo pos (starEach (e :: es) X.env)) (backToKw pos (keywordEach [] X.env))) := by rfl) :
    PE X (.Call (.Attribute o m apos) (e :: es) [] pos) (tMeth C m sp [] E ta t) := by
  obtain ⟨f, fd, ok, mt, cl, bi⟩ := F.ex
  exact pe_meth (pl := pl) ho cl mt ok hr bi .nil hx ha hst hpl ht
theorem pf_meth0 {pl : Sem Bool} (F : Mt X.prog X.w X.K X.mg X.base C m k ps sp) (ho : PE X o ta) (hr : Room k X.A) (hx : Passes (CX1 X.prog X.w) X E)
    (ht : eval (.Call (.Attribute o m apos) [] [] pos) X.env = (do
      let ov ← eval o X.env
      standAt apos.atName
      let (f, first) ← holding [ov] (getMethod ov m pl)
      callWith pos f first (backTo pos (starEach [] X.env)) (backToKw pos (keywordEach [] X.env))) := by rfl) :
    PE X (.Call (.Attribute o m apos) [] [] pos) (tMeth C m sp [] E ta tNil) := by
  obtain ⟨f, fd, ok, mt, cl, bi⟩ := F.ex
  exact pe_meth0 (pl := pl) ho cl mt ok hr bi .nil hx ht
theorem pf_make (F : Mc X.prog X.w X.K X.mg X.base x C k ps sp) (hr : Room (k + 1) X.A) (hg : Gl X x) (hx : Passes (CX1 X.prog X.w) X E) (ha : PA X (e :: es) t) (hdb : (x == ("__debug__" : Str)) = false := by decide)
    (he : starEach (e :: es) X.env = (false, eval e X.env) :: starEach es X.env := by rfl) (hpl : (backTo pos (starEach es X.env)).any (·.1) = false := by rfl) : PE X (.Call (.Name x p) (e :: es) [] pos) (tMake C sp [] E t) := by
  obtain ⟨f, fd, ok, mk, mgx, bi⟩ := F.ex
  exact pe_make mk ok hr hg mgx bi .nil hx ha hdb he hpl
end
end L2

namespace L2
open PySem PySem.Spec PyProof.Rows
/-! ### arguments: the head's form is looked at, not what stands in it -/
section
variable {X : Cx} {es : List Expr} {env : Env}
end
end L2

namespace L2
open PySem PySem.Spec PyProof.Rows
section
variable {X : Cx} {elt iter tg : Expr} {ifs : List Expr} {scope : Scope} {pos : Pos} {own capn : List Str} {capI : List Nat} {wi : TI} {g : TG} {tt : TT} {te : TE}
end
end L2

namespace L2
open PySem PySem.Spec PyProof.Rows
section
variable {X : Cx}
end
end L2

set_option maxHeartbeats 1000000
namespace L2
open PySem PySem.Spec PyProof.Rows
section
variable {prog : Program} {w : World} {A : Around} {E : Value → Shared → Prop} {s : Shared}
end
section
variable {prog : Program} {w : World} {K : Type} [DecidableEq K] {knd : KeyKind prog w K} {A : Around}
end
end L2

set_option maxHeartbeats 1000000
namespace L2
open PySem PySem.Spec PyProof.Rows
section
variable {prog : Program} {w : World} {K : Type} [DecidableEq K] {knd : KeyKind prog w K} {A : Around}
end
end L2

set_option maxHeartbeats 1000000
namespace L2
open PySem PySem.Spec PyProof.Rows
section
variable {X : Cx}
end
end L2

set_option maxHeartbeats 1000000
namespace L2
open PySem PySem.Spec PyProof.Rows
section
variable {X : Cx} {e st : Expr} {te : TE} {lo hi : Option Expr} {tl th ts : TO} {pos p2 : Pos}
/-- asked of a range, within a comprehension -/
theorem rg_ask {lo : Int} {n i : Nat} {H : Hp} {A : Prop} {B : V → Hp → Prop} (hi : i ≤ n) (hs : i < n → B (.int (lo + i)) H) (hd : i = n → A) :
    ((Itr lo n).stop i H ∧ A) ∨ ((Itr lo n).go i H ∧ ∀ x H', (Itr lo n).yld i H x H' → B x H') := by
  by_cases hlt : i < n
  · refine .inr ⟨hlt, fun x H' y => ?_⟩
    obtain ⟨rfl, rfl⟩ := y
    exact hs hlt
  · exact .inl ⟨by show n ≤ i; omega, hd (by omega)⟩
end
end L2

set_option maxHeartbeats 1000000
namespace L2
open PySem PySem.Spec PyProof.Rows
section
variable {X : Cx} {pins : List (Addr × Obj)} {σ : List (Option V)} {H H' : Hp} {s : Shared} {h' : Heap}
/-- records of ours have turned -/
theorem Inv.turnedL {t' : Nat} {wr : List Addr} (I : Inv X pins σ H s) (k : ∀ b o, b ∉ wr → s.heap.get? b = some o → h'.get? b = some o) (hf : ∀ b ∈ wr, FpOk X pins H b) : Inv X pins σ H { s with heap := h', toks := t' } := by
  have nit : ∀ b u, H b = some u → b ∉ wr := fun b u e z => by rw [(hf b z).1] at e; cases e
  refine I.step (g' := s.gens) (d' := s.drawn) (ch := wr) (fun b hb => ⟨(hf b hb).2.2.2.1, (hf b hb).2.1, (hf b hb).2.2.2.2.1, (hf b hb).2.2.2.2.2⟩) (fun b o _ _ hc e _ => k b o hc e) (fun b o _ _ hc e _ => ⟨o.slots, k b o hc e⟩) (fun _ _ _ _ n => n)
    (fun b o hc e => ⟨o, k b o hc e⟩) (fun _ _ e => e) (fun _ _ _ e => e) (fun b ps e => ⟨#[], by rw [e]; simp⟩) (fun m hm => ?_) (fun b u e => ?_) I.bare
  · obtain ⟨o, es, ep, ho, r⟩ := hm
    exact ⟨o, es, ep, k _ o (fun z => (hf _ z).2.1 rfl) ho, r⟩
  · refine (I.hok b u e).stay (fun c v hc q => k c v ?_ q) (fun _ q => q) fun _ _ q => q
    rcases hc with z | z
    · rw [z]; exact nit b u e
    · exact nit c _ z
end

section
variable {X : Cx} {elts : List Expr} {kk : Nat} {pt : Pos}
end
end L2

set_option maxHeartbeats 1000000
namespace L2
open PySem PySem.Spec PyProof.Rows
section
variable {X : Cx} {o i : Expr} {pos : Pos} {td ty : TE}
/-- d[y] of a dict that stands at the text's top -/
noncomputable def tDGetC (P : Program) (w : World) (K : PySem.W.Frag) (td ty : TE) : TE := fun σ H Q => td σ H fun x H1 => ty σ H1 fun y H2 => ∃ a kvs k v, x = .ref a ∧ DkK P w K a kvs ∧ y = kV k ∧ valV kvs k = some v ∧ Q v H2
theorem pe_dgetC (ho : PE X o td) (hi : PE X i ty) (hs : NoSl i) : PE X (.Subscript o i pos) (tDGetC X.prog X.w X.K td ty) := by
  intro pins s σ H Q I h
  refine subD_of PySem.F.slot_dict_getitem.lookup hs (thn (ho pins s σ H _ I h) fun u s1 ⟨x, H1, I1, rx, q1⟩ => thn (hi pins s1 σ H1 _ I1 q1) fun iv s2 ⟨y, H2, I2, ry, a, kvs, k, v, ex, hd, ey, hv, q2⟩ => ?_)
  subst ex ey
  obtain rfl : u = Value.ref a := rx
  obtain ⟨z, hl, vs, rel, hd⟩ := hd
  have dd := hd _ I2.kIn
  obtain ⟨w', hw, rw'⟩ := RelO.some_of (v := v) (o := valueAt vs k) (by rw [← hv]; exact rel.val k)
  exact ⟨dd.typeIs, wpAny_getItem_of (kV_is ry) dd.mapOf hw ⟨v, H2, I2.tok _, rw', q2⟩⟩
/-- a def that is known by its address -/
structure FnV (P : Program) (w : World) (K : PySem.W.Frag) (mg : Str → Option Value) (base : Heap) (k : Nat) (f : Addr) (ps : List Str) (sp : Sp) : Prop where
  ex : ∃ fd, FnOk P w K mg base (CX1 P w) k f fd ps sp ∧ PySem.W.keepIn K (.ref f) = true ∧ Binds K fd ps []
/-- g(..)(e, ..): a def that an expression tells -/
noncomputable def tDo (P : Program) (w : World) (K : PySem.W.Frag) (mg : Str → Option Value) (base : Heap) (k : Nat) (E : XK) (tf : TE) (t : TA) : TE := fun σ H Q => tf σ H fun v H1 => ∃ f ps sp, v = .ref f ∧ FnV P w K mg base k f ps sp ∧ t σ H1 fun vs H2 => sp vs H2 Q E
theorem pe_do {E : XK} {k : Nat} {fn e : Expr} {es : List Expr} {tf : TE} {t : TA} (hf : PE X fn tf) (hr : Room k X.A) (hx : Passes (CX1 X.prog X.w) X E) (ha : PA X (e :: es) t)
    (hc : eval (.Call fn (e :: es) [] pos) X.env = (do callWith pos (← eval fn X.env) [] (backTo pos (starEach (e :: es) X.env)) (backToKw pos (keywordEach [] X.env))))
    (he : starEach (e :: es) X.env = (false, eval e X.env) :: starEach es X.env := by rfl) (hpl : (backTo pos (starEach es X.env)).any (·.1) = false := by rfl) :
    PE X (.Call fn (e :: es) [] pos) (tDo X.prog X.w X.K X.mg X.base k E tf t) := by
  intro pins s σ H Q I h
  refine Call_ (thn (hf pins s σ H _ I h) fun u s1 ⟨x, H1, I1, rx, f, ps, sp, ex, F, q1⟩ => ?_) hc
  subst ex
  obtain rfl : u = Value.ref f := rx
  obtain ⟨fd, ok, hk, hb⟩ := F.ex
  refine PySem.W.callWith_K (h₀ := X.base) I.ok.mod.kin hk (thn (ha pos pins s1 σ H1 _ I1 q1) fun us s2 ⟨vs, H2, I2, r, q⟩ => ⟨I2.kIn, ?_⟩) he hpl
  exact run_fn ok hr hb .nil hx I2 r (by rw [List.append_nil]; exact q)
end
section
variable {X : Cx} {k : Nat} {f C : Addr} {fd : FuncData} {ps : List Str} {sp : Sp} {dvs : List V} {ds : List Value} {m : Str} {p pos apos epos cpos : Pos} {e o : Expr} {es : List Expr} {ta : TE} {t : TA}
variable {te : XK → TE} {cx n : Str} {np hpos tpos wpos : Pos} {i j : Nat} {b₀ : Stmt} {suite : List Stmt} {ts : TS} {Cc : Addr} {call : Expr}
end
end L2

set_option maxHeartbeats 1000000
namespace L2
open PySem PySem.Spec PyProof.Rows
end L2

set_option maxHeartbeats 1000000
namespace L2
open PySem PySem.Spec PyProof.Rows
/-! ### the greatest of whole numbers -/
section
variable {prog : Program} {w : World} {A : Around} {R : Result → Shared → Prop} {I S : Addr} {fp wr : List Addr} {n : Nat} {P : Nat → Value → Prop} {St : Nat → Heap → Prop} {kw : List (Str × Value)} {bt : Nat → Nat → Bool}
end
section
variable {X : Cx}
end
end L2

set_option maxHeartbeats 1000000
namespace L2
open PySem PySem.Spec PyProof.Rows
/-! ### a comprehension one of whose own names is taken by a comprehension within it: a new cell stands behind the map -/
section
variable {X : Cx} {pins : List (Addr × Obj)} {σ : St} {H : Hp} {s : Shared}

variable {elt iter tg : Expr} {ifs : List Expr} {scope : Scope} {pos : Pos} {own capn : List Str} {capI : List Nat} {wi : TI} {g : TG} {tt : TT} {te : TE}
end
end L2

set_option maxHeartbeats 1000000
namespace L2
open PySem PySem.Spec PyProof.Rows
section
variable {X : Cx} {pins : List (Addr × Obj)} {σ : St} {H : Hp} {s : Shared} {a : Addr} {u : HO} {o : Obj}
/-! ### a dict held fast while it is gone through -/
end
/-! ### the keys of a dict, one by one -/
section
variable {prog : Program} {w : World} {A : Around} {E : Value → Shared → Prop} {sh : Shared} {ic dc : Addr} {i ep : Nat} {od : Obj} {es : Array DictEntry} {Q : Option Value → Shared → Prop}
end
section
variable {X : Cx} {tg : Expr}
end
end L2



set_option maxHeartbeats 1000000
namespace L2
open PySem PySem.Spec PyProof.Rows
/-! ### the items of a dict, one by one -/
section
variable {X : Cx} {elts : List Expr} {kk : Nat} {pt : Pos}
end
/-! ### any of a list of truths -/
theorem bools_items : ∀ {bs : List Bool} {its : List Value}, Vals (bs.map V.bl) its → its = bs.map Value.bool
  | [], its, h => by cases h; rfl
  | b :: bs, its, h => by
    cases h with
    | cons a r =>
      rw [bools_items r]
      cases a
      rfl
end L2

set_option maxHeartbeats 1000000
namespace L2
open PySem PySem.Spec PyProof.Rows
section
variable {X : Cx} {o e : Expr} {to : TE} {te : XK → TE} {apos cpos : Pos}
end
end L2

namespace L2
open PySem PySem.Spec PyProof.Rows
section
variable {X : Cx}
/-! ### sum of whole numbers, told exactly -/
theorem Vals.ins : ∀ {xs : List V} {us : List Value} {y : V} {u : Value}, Vals xs us → RelV y u → ∀ k : Nat, Vals (xs.take k ++ y :: xs.drop k) (us.take k ++ u :: us.drop k)
  | _, _, _, _, .nil, ry, k => by simp only [List.take_nil, List.drop_nil, List.nil_append]; exact .cons ry .nil
  | _, _, _, _, .cons a b, ry, 0 => .cons ry (.cons a b)
  | _, _, _, _, .cons a b, ry, k + 1 => .cons a (Vals.ins b ry k)
/-- xs.insert(i, y), i not below 0 -/
noncomputable def rInsert : V → List V → Hp → VK → Prop := fun x vs H Q => ∃ l xs i y, x = .ref l ∧ vs = [.int i, y] ∧ H l = some (.lst xs) ∧ 0 ≤ i ∧ i < 2 ^ 63 ∧ xs.length < sizeLine ∧ Q .non (upd H l (.lst (xs.take (min i.toNat xs.length) ++ y :: xs.drop (min i.toNat xs.length))))
theorem mt_insert : MtM X "list.insert" rInsert := by
  intro pins s σ H x vs v us Q I rx rv h
  obtain ⟨l, xs, i, y, rfl, rfl, hH, i0, i1, hz, q⟩ := h
  cases rx
  obtain ⟨u0, u, rfl, r0, ru⟩ := rv.two
  obtain ⟨t, rfl⟩ := r0
  obtain ⟨z, its, n, r, hl, e⟩ := I.lstM hH
  have hlen := r.length
  refine call_meets F.slot_list_insert ⟨_, e, rfl⟩ F.entry_list_insert (F.args_list_insert_3 _ _ _) (PySem.AutoSeq1.list_insert_list_int_val_1 l its.toArray n i t u (by
    unfold PySem.Builtin.List.listFitsIndex
    rw [decide_eq_true (show (-2 ^ 63 : Int) ≤ i by omega), decide_eq_true (show i < (2 ^ 63 : Int) from i1)]
    decide) (by rw [List.size_toArray]; omega)) ⟨e, ?_⟩
  refine ⟨.non, _, I.lset (its' := its.take (min i.toNat its.length) ++ u :: its.drop (min i.toNat its.length)) hH e ?_ ?_ ?_, rfl, q⟩
  · show (let k := if i < 0 then (i + (its.toArray.size : Int)).toNat else min i.toNat its.toArray.size; (its.toArray.extract 0 k).push u ++ its.toArray.extract k) = _
    rw [if_neg (by omega), List.size_toArray]
    generalize min i.toNat its.length = k
    apply Array.ext'
    simp [List.drop_take]
    exact List.take_of_length_le (by rw [List.length_drop]; exact Nat.le_refl _)
  · rw [hlen]
    exact Vals.ins r ru _
  · rw [List.length_append, List.length_cons, List.length_take, List.length_drop]
    omega
end
end L2

set_option maxHeartbeats 1000000
namespace L2
open PySem PySem.Spec PyProof.Rows
section
variable {X : Cx}
/-! ### texts: slices, signs one by one -/
/-- z[lo:hi] of a text -/
noncomputable def rSlS : V → Option Int → Option Int → Hp → VK → Prop := fun x lo hi H Q => ∃ z : Str, x = .str z ∧ z.length ≤ sizeLine ∧ Q (.str (Txt.slice z lo hi)) H
theorem part_of {v : Value} {o : Option Int} (h : IsPart v o) : ∃ l : Option (Int × Tok), v = partValue l ∧ l.map (·.1) = o := by
  cases h with
  | none => exact ⟨none, rfl, rfl⟩
  | int i t => exact ⟨some (i, t), rfl, rfl⟩
theorem sl_str : SlR X rSlS := by
  intro pins s σ H x v vl vu lo hi sl Q I rx hs pl pu h
  obtain ⟨z, rfl, hz, q⟩ := h
  obtain ⟨t, rfl⟩ := rx
  obtain ⟨l, rfl, rfl⟩ := part_of pl
  obtain ⟨u, rfl, rfl⟩ := part_of pu
  obtain ⟨o, ho, hc, hd⟩ := hs
  refine ⟨"str", _, F.slot_str_getitem.lookup, typeIs_str _ _ _, wpAny_getItem_str_slice (l := l) (u := u) (st := none) ⟨o, ho, hc, hd⟩ rfl ?_⟩
  exact post_val_or_str ⟨Nat.le_trans (Txt.slice_le z _ _) hz, fun t' k => ⟨.str (Txt.slice z (l.map (·.1)) (u.map (·.1))), H, I.tok k, ⟨t', rfl⟩, q⟩⟩
/-- the signs of a text -/
noncomputable def Its (z : Str) : It := ⟨fun i _ => i < z.cps.size, fun i H x H' => H' = H ∧ ∃ c, z.cps[i]? = some c ∧ x = .str ⟨#[c]⟩, fun i _ => z.cps.size ≤ i⟩
noncomputable def iStr (tl : TE) : TI := fun σ H R => tl σ H fun x H1 => ∃ z : Str, x = .str z ∧ R (Its z) H1
theorem turn_str {P : Program} {w : World} {K : PySem.W.Frag} {tg : Expr} {z : Str} {t : Tok} {it : Addr} {ty : String} (hn : ["enumerate", "zip", "dict_itemiterator", "dict_reverseitemiterator", "odict_iterator", "itertools.zip_longest", "itertools.pairwise"].contains ty = false)
    (W : ∀ A : Around, A.handled = none → Walks P w A it [it] [it] z.cps.size (SignAt z) (fun i h => h.IsStrIter it ty z t i)) (S : ∀ (A : Around) (i : Nat) (s : Shared) (Q : Value → Shared → Prop) (E : Value → Shared → Prop), s.heap.IsStrIter it ty z t i → Q (.ref it) s → wpAny (model P w) A (pyIter (.ref it)) Q E s) : Turn P w K tg (Its z) [it] it (fun i h => i ≤ z.cps.size ∧ h.IsStrIter it ty z t i) where
  mem := by simp
  obj := fun i h st b hb => by
    have e : b = it := by simpa using hb
    subst e
    obtain ⟨o, e, c, d⟩ := st.2
    exact ⟨o, e, fun v z => by rw [d] at z; cases z⟩
  keep := fun i h h' st k => by
    obtain ⟨o, e, r⟩ := st.2
    exact ⟨st.1, o, k it (by simp) o e, r⟩
  item := by
    intro X hP hw hK hc i pins s σ H E I hf st hg
    subst hP hw hK
    obtain ⟨f0, f1, f2, f3, f4, f5⟩ := hf it (by simp)
    refine (W X.A (I.ok.hd hc)).item i s _ _ hg st.2 fun v h' tk pv st' k => ?_
    obtain ⟨c, u, hcp, rfl⟩ := pv
    have I1 : Inv X pins σ H { s with heap := h', toks := tk } := I.turned (t' := tk) (fun b o hb e => k b o (by simpa using hb) e) f0 f1 f3 f4 f5
    obtain ⟨o, e, c', d⟩ := id st'
    exact ⟨_, rfl, go_of (s := { s with heap := h', toks := tk }) e c' d hn ⟨.str ⟨#[c]⟩, H, I1, ⟨u, rfl⟩, ⟨rfl, c, hcp, rfl⟩, ⟨hg, st'⟩, fun b hb => (hf b hb).1⟩⟩
  done := by
    intro X hP hw hK hc i pins s σ H E I hf st hg
    subst hP hw hK
    obtain ⟨f0, f1, f2, f3, f4, f5⟩ := hf it (by simp)
    have e : i = z.cps.size := Nat.le_antisymm st.1 hg
    subst e
    exact (W X.A (I.ok.hd hc)).done s _ _ st.2 fun h' tk k => ⟨rfl, I.turned (t' := tk) (fun b o hb e => k b o (by simpa using hb) e) f0 f1 f3 f4 f5⟩
  self := fun A i s Q E st h => S A i s Q E st.2 h
theorem pi_str {tg l : Expr} {tl : TE} (hl : PE X l tl) : PI X tg l (iStr tl) := by
  intro pins s σ H R I h
  refine thn (hl pins s σ H _ I h) fun v s1 ⟨x, H1, I1, r1, q1⟩ => ?_
  obtain ⟨z, rfl, q⟩ := q1
  obtain ⟨t, rfl⟩ := r1
  have fin : ∀ b ∈ [s1.heap.objs.size], FpOk X pins H1 b := fun b hb => by
    have e : b = s1.heap.objs.size := by simpa using hb
    subst e
    exact I1.fpOk (Nat.le_refl _) (I1.hok.fresh (Nat.le_refl _))
  cases ha : z.cps.all (· < 128)
  · exact wpAny_pyIter_wide ha ⟨s1.heap.objs.size, [s1.heap.objs.size], _, Its z, H1, rfl, I1.kept (t' := s1.toks) fun b o e => Heap.get?_push_of_some _ e, turn_str (ty := "str_iterator") (by decide) (fun A hA => Walks.strWide hA _ z t) (fun _ _ _ _ _ st h => wpAny_pyIter_striter_wide st h), ⟨Nat.zero_le _, _, Heap.get?_push_size _ rfl, rfl, rfl⟩, fin, q⟩
  · exact wpAny_pyIter_ascii ha ⟨s1.heap.objs.size, [s1.heap.objs.size], _, Its z, H1, rfl, I1.kept (t' := s1.toks) fun b o e => Heap.get?_push_of_some _ e, turn_str (ty := "str_ascii_iterator") (by decide) (fun A hA => Walks.strAscii hA _ z t) (fun _ _ _ _ _ st h => wpAny_pyIter_striter_ascii st h), ⟨Nat.zero_le _, _, Heap.get?_push_size _ rfl, rfl, rfl⟩, fin, q⟩
/-- a comprehension's or a loop's turn over a text -/
theorem st_ask {z : Str} {i : Nat} {H : Hp} {A : Prop} {B : V → Hp → Prop} (hi : i ≤ z.cps.size) (hs : ∀ c, z.cps[i]? = some c → i < z.cps.size → B (.str ⟨#[c]⟩) H) (hd : i = z.cps.size → A) :
    ((Its z).stop i H ∧ A) ∨ ((Its z).go i H ∧ ∀ x H', (Its z).yld i H x H' → B x H') := by
  by_cases hlt : i < z.cps.size
  · refine .inr ⟨hlt, fun x H' y => ?_⟩
    obtain ⟨rfl, c, hc, rfl⟩ := y
    exact hs c hc hlt
  · exact .inl ⟨by show z.cps.size ≤ i; omega, hd (by omega)⟩
/-! ### all of bools -/
noncomputable def rAllB (K : PySem.W.Frag) : List V → Hp → VK → Prop := fun xs H Q => ∃ (l : Addr) (bs : List Bool), xs = [.ref l] ∧ SqL K H l (bs.map V.bl) ∧ Q (.bl (bs.all id)) H
theorem call_allB (hc : X.calm = true) : CallR X (.builtin "all") (rAllB X.K) := by
  intro pins s σ H xs us Q I r h
  obtain ⟨l, bs, rfl, hl, q⟩ := h
  obtain ⟨u, rfl, ru⟩ := vals1 r
  obtain rfl : u = Value.ref l := ru
  obtain ⟨its, v, P1, z1⟩ := I.list hl
  have e := bools_items v
  subst e
  have hll : l < s.heap.objs.size := by
    obtain ⟨o, z, _⟩ := P1.isList
    exact Heap.lt_size z
  refine call_all_walk (wpAny_pyIter_list P1.isList ?_)
  refine ⟨s.heap.objs.size, _, _, _, _, _, (fun i => bs.getD i true), rfl, Walks.list (A := X.A.in1) (show X.A.in1.handled = none from I.ok.hd hc) s.heap.objs.size l (Nat.ne_of_lt hll) (bs.map Value.bool).toArray, ⟨⟨_, Heap.get?_push_size _ rfl, rfl, rfl⟩, ?_⟩, fun i v s' Q' E' hv hq => ?_, fun h' tk k => ?_⟩
  · exact P1.isList.at fun o z => Heap.get?_push_of_some _ z
  · have hv' : (bs.map Value.bool)[i]? = some v := by simpa using hv
    rw [List.getElem?_map] at hv'
    cases hb : bs[i]? with
    | none => rw [hb] at hv'; cases hv'
    | some b =>
      rw [hb] at hv'
      cases hv'
      refine wpAny_truthy_bool ?_
      have hq' : Q' (bs.getD i true) s' := hq
      rw [List.getD_eq_getElem?_getD, hb] at hq'
      exact hq'
  · have ea : ((List.range (bs.map Value.bool).toArray.size).all fun i => bs.getD i true) = bs.all id := by
      rw [List.size_toArray, List.length_map, Bool.eq_iff_iff, List.all_eq_true, List.all_eq_true]
      constructor
      · intro h b hb
        obtain ⟨i, hi⟩ := List.getElem?_of_mem hb
        have := h i (List.mem_range.mpr (List.getElem?_eq_some_iff.mp hi).1)
        rw [List.getD_eq_getElem?_getD, hi] at this
        exact this
      · intro h i hi
        have hi' := List.mem_range.mp hi
        rw [List.getD_eq_getElem?_getD, List.getElem?_eq_getElem hi']
        exact h _ (List.getElem_mem hi')
    rw [ea]
    have I1 : Inv X pins σ H { s with heap := s.heap.push { cls := .type "list_iterator", data := .fields #[.ref l, .int 0 0] } } := I.kept (t' := s.toks) fun b ob e => Heap.get?_push_of_some _ e
    refine ⟨.bl _, H, I1.turnedL (t' := tk) (wr := [s.heap.objs.size]) k fun b hb => ?_, rfl, q⟩
    have e := List.mem_singleton.mp hb
    subst e
    exact I.fpOk (Nat.le_refl _) (I.hok.fresh (Nat.le_refl _))
/-! ### int(text) -/
noncomputable def rIntS : List V → Hp → VK → Prop := fun xs H Q => ∃ (z : Str) (n : Int), xs = [.str z] ∧ PySem.intText? z = some n ∧ z.length ≤ 640 ∧ Q (.int n) H
theorem call_intS : CallR X (.type "int") rIntS := by
  intro pins s σ H xs us Q I r h
  obtain ⟨z, n, rfl, hn, hz, q⟩ := h
  obtain ⟨u, rfl, ru⟩ := vals1 r
  obtain ⟨t, rfl⟩ := ru
  exact PySem.W.KIN.call_text hn hz ⟨.int n, H, I.tok _, ⟨_, rfl⟩, q⟩
/-! ### text * number -/
/-! ### sep.join(texts) -/
/-! ### f"..{e!r}" of a text: some text -/
noncomputable def tFsR (te : TE) : TE := fun σ H Q => te σ H fun x H1 => ∃ z : Str, x = .str z ∧ z.length ≤ 1000 ∧ (∀ c ∈ z.cps.toList, c < 16 ^ 8) ∧ ∀ y : Str, Q (.str y) H1
theorem pe_fsR {c : Str} {e : Expr} {te : TE} {j : Nat} {p1 p2 pos : Pos} (he : PE X e te) (hc : c.length ≤ 1000) : PE X (.JoinedStr [.Constant (.str c) j p1, .FormattedValue e 114 none p2] pos) (tFsR te) := by
  intro pins s σ H Q I h
  refine wpAny_JoinedStr ?_
  refine (pe_str (X := X) (x := c) (j := j) (pos := p1)) pins s σ H (fun x H1 => x = .str c ∧ H = H1) I ⟨rfl, rfl⟩ |> fun k => ?_
  show wpAny _ _ (eval (.Constant (.str c) j p1) X.env) _ _ s
  refine thn k fun u s1 ⟨x, H1, I1, r1, e1, e2⟩ => ?_
  subst e1 e2
  obtain ⟨t, rfl⟩ := r1
  have sl : (100000 : Nat) ≤ sizeLine := by decide
  refine ⟨c, t, rfl, ?_, ?_⟩
  · rw [PySem.Str.length_append]
    have : (Str.empty).length = 0 := rfl
    omega
  show wpAny _ _ (eval (.FormattedValue e 114 none p2) X.env) _ _ s1
  refine wpAny_FormattedValue_repr (thn (he pins s1 σ _ _ I1 h) fun v s2 ⟨x, H2, I2, r2, z, e, hz, hb, q⟩ => ?_)
  subst e
  obtain ⟨t2, rfl⟩ := r2
  have hr : (reprText z).length ≤ 10 * z.length + 2 := StrLaws.reprText_len z hb
  have hlen : (Str.empty ++ c ++ reprText z).length ≤ sizeLine := by
    rw [PySem.Str.length_append, PySem.Str.length_append]
    have : (Str.empty).length = 0 := rfl
    omega
  refine wpAny_pyReprObj_str (wpAny_formatField_str ?_ ?_ (by omega)) (by omega)
  · exact ⟨_, _, rfl, hlen, hlen, .str _, H2, (I2.tok _).tok _, ⟨_, rfl⟩, q _⟩
  · exact ⟨_, _, rfl, hlen, hlen, .str _, H2, ((I2.tok _).tok _).tok _, ⟨_, rfl⟩, q _⟩
end
end L2

set_option maxHeartbeats 1000000
namespace L2
open PySem PySem.Spec PySem.Calls PyProof.Rows PySem.W
/-! ### isinstance of an exception that was caught -/
/-- what the text knows of a class of exceptions -/
structure ExcK (K : PySem.W.Frag) (D : Addr) : Prop where
  cls : (clsIn K D).isSome = true
  ga : findIn K (.ref D) "__getattribute__" = some (some (.builtin "BaseException.__getattribute__"))
  gh : findIn K (.ref D) "__getattr__" = some none
  cl : findIn K (.ref D) "__class__" = some (some (.builtin "object.__class__"))
  gt : specialIn K (.builtin "object.__class__") "__get__" = some (some (.builtin "getset_descriptor.__get__"))
  tk : takesIn K (.builtin "object.__class__") = some true
  ob : mroIn K D (.type "object") = some true
  be : mroIn K D (.type "BaseException") = some true
section
variable {prog : Program} {w : World} {A : Around} {E : Value → Shared → Prop} {s : Shared} {K : PySem.W.Frag} {x C D : Addr} {ox : Obj} {odo : Option Obj}
theorem find_class (T : ExcK K D) : findObj K D odo "__class__" = some (.bind (.builtin "getset_descriptor.__get__") (.builtin "object.__class__")) := by
  obtain ⟨cd, hc⟩ := Option.isSome_iff_exists.mp T.cls
  unfold findObj
  rw [hc, Option.bind_some, T.cl, Option.bind_some]
  simp [T.gt, T.tk]
theorem ga_slot : Slot "ValueError" "__getattribute__" "BaseException.__getattribute__" := F.excAttr_ValueError.ga
theorem check_ga {M : Model} {nameV : Value} {Q : Unit → Shared → Prop} (X : K.In s.heap) (I : PySem.W.InstAt s.heap x ox D odo) (T : ExcK K D) (hq : Q () s) : wpAny M A (checkBuiltinCall "BaseException.__getattribute__" ⟨[.ref x, nameV], []⟩) Q E s := by
  have hk : builtinKind "BaseException.__getattribute__" = some .slot := by decide +kernel
  have hsplit : splitId "BaseException.__getattribute__" = some ("BaseException", "__getattribute__") := by decide +kernel
  have L0 := I.type (M := M)
  have L1 := looks_mroIn (M := M) X T.be
  have ha := F.args_bexc_ga (.ref x) nameV
  obtain ⟨hh, g, d, t, os⟩ := s
  simp only [checkBuiltinCall, hk, hsplit]
  refine wpAny_bind ?_
  unfold isInstance
  refine wpAny_bind (L0.at ?_)
  refine L1.at ?_
  repeat (any_goals (first | assumption | wp_step))
theorem class_entry {tk : Tok} {Q : Fin → Shared → Prop} (X : K.In s.heap) (I : PySem.W.InstAt s.heap x ox D odo) (T : ExcK K D) (hq : Q (.done (.ret (.ref D))) s) :
    wpAny (model prog w) A (Builtin.«object.__getattribute__» ⟨[.ref x, .str "__class__" tk], []⟩) Q E s := by
  have L0 := I.type (M := model prog w)
  have L1 := looks_find (M := model prog w) X I (find_class (odo := odo) T)
  have cg := fun (A : Around) (R : Result → Shared → Prop) h => class_get (prog := prog) (w := w) (A := A) (R := R) (tp := .ref D) X I T.ob h
  obtain ⟨hh, g, d, t, os⟩ := s
  unfold Builtin.«object.__getattribute__»
  repeat (any_goals (first | assumption | (with_reducible refine L0.here ?_) | (with_reducible refine L1.here ?_) | wp_step))
  refine cg _ _ ?_
  exact wpAny_pure hq
theorem exc_class {Q : Option Value → Shared → Prop} (X : K.In s.heap) (I : PySem.W.InstAt s.heap x ox D odo) (T : ExcK K D) (h : Q (some (.ref D)) { s with toks := s.toks + 1 }) : wpAny (model prog w) A (getAttr? (.ref x) "__class__") Q E s := by
  have L0 := I.type (M := model prog w)
  have L1 := looks_findIn (M := model prog w) X T.ga
  have L2 := looks_findIn (M := model prog w) X T.gh
  have ck := fun (A : Around) (E : Value → Shared → Prop) (nameV : Value) (Q : Unit → Shared → Prop) t1 h => check_ga (A := A) (E := E) (M := model prog w) (nameV := nameV) (Q := Q) (s := { s with toks := t1 }) X I T h
  have en := fun (A : Around) (E : Value → Shared → Prop) (tk : Tok) (Q : Fin → Shared → Prop) t1 h => class_entry (prog := prog) (w := w) (A := A) (E := E) (tk := tk) (Q := Q) (s := { s with toks := t1 }) X I T h
  obtain ⟨hh, g, d, t, os⟩ := s
  have f3 := ga_slot.bind (.ref x)
  have hx2 : (Value.builtin "BaseException.__getattribute__" == Value.builtin "object.__getattribute__") = false := by decide +kernel
  unfold getAttr? getAttrBy? getAttrBy
  refine wpAny_bind (wpAny_mkText (wpAny_bind (wpAny_attempt (wpAny_holding (wpAny_bind (L0.at (wpAny_bind (L1.at ?_))))))))
  dsimp only
  rw [hx2, Bool.and_false, if_neg (by decide)]
  unfold getAttrByItsOwn hookBefore
  rw [show onTheHeap (Value.ref D) = true from rfl, if_pos rfl]
  refine wpAny_bind (L2.at ?_)
  repeat (any_goals (first | assumption | wp_step))
  refine codeAny_call_builtin ga_slot.plain F.entry_bexc_ga (ck _ _ _ _ (t + 1) (en _ _ _ _ (t + 1) ?_))
  exact wpAny_pure (wpAny_pure h)
theorem kitx_exc (T : ExcK K D) : KitX K (.ref x) (.ref D) (fun h => ∃ ox odo, PySem.W.InstAt h x ox D odo) where
  ty := fun _ _ _ ⟨_, _, I⟩ => I.type
  it := fun _ _ X _ => by
    obtain ⟨cdD, hcD⟩ := Option.isSome_iff_exists.mp T.cls
    unfold clsIn at hcD
    split at hcD
    · rename_i c' d' cd' sl' ho
      intro A' Q' E' s' k q
      unfold isType loadHead
      exact wpAny_bind (wpAny_loadPart (k _ _ (X _ _ ho)) (wpAny_pure q))
    · cases hcD
  ne := fun h tp dd its n sl X htp => by
    obtain ⟨cdD, hcD⟩ := Option.isSome_iff_exists.mp T.cls
    refine Bool.eq_false_iff.mpr fun q => ?_
    have e : D = tp := Value.ref.inj (beq_iff_eq.mp q)
    subst e
    unfold clsIn at hcD
    split at hcD
    · rename_i c' d' cd' sl' ho
      have z := (X _ _ ho).symm.trans htp
      cases z
    · cases hcD
  ca := fun X ⟨_, _, I⟩ k => exc_class X I T k
end
section
variable {X : Cx}
/-- a class, as a value: one of the text, or one of the language's own -/
noncomputable def ClsV : V → Value → Prop
  | .ref C, c => c = .ref C
  | .ty T, c => c = .type T
  | _, _ => False
noncomputable def rIsiE (K : PySem.W.Frag) (xs : List V) (H : Hp) (Q : VK) : Prop := ∃ e D y c b, xs = [.ref e, y] ∧ H e = some (ExcC e (.ref D) none) ∧ ClsV y c ∧ ExcK K D ∧ PySem.W.kitOne K (.ref D) c = some b ∧ Q (.bl b) H
theorem call_isiE : CallR X (.builtin "isinstance") (rIsiE X.K) := by
  intro pins s σ H xs us Q I r h
  obtain ⟨e, D, y, c, b, rfl, he, hy, T, hb, q⟩ := h
  obtain ⟨u, c', rfl, ru, rc⟩ := vals2 r
  obtain rfl : u = Value.ref e := ru
  have ec : c' = c := by
    cases y with
    | ref C =>
      have h1 : c' = Value.ref C := rc
      have h2 : c = Value.ref C := hy
      rw [h1, h2]
    | ty T =>
      have h1 : c' = Value.type T := rc
      have h2 : c = Value.type T := hy
      rw [h1, h2]
    | _ => exact False.elim hy
  subst ec
  have ob := I.hok e _ he
  obtain ⟨oe, vs, h1, h2, h3, h4⟩ := (show ∃ oe vs, s.heap.get? e = some oe ∧ oe.cls = .ref D ∧ oe.dict = none ∧ oe.data = .fields vs from ob.1)
  refine PySem.W.kia_one (kitx_exc T) I.kIn ⟨oe, none, h1, h2, ?_, ?_⟩ hb (fun z => nomatch z) fun tk => ⟨.bl b, H, I.tok tk, rfl, q⟩
  · unfold notCls
    rw [h4]
  · rw [h3]
    trivial
theorem call_isiEK {K : PySem.W.Frag} (h : X.K = K) : CallR X (.builtin "isinstance") (rIsiE K) := by subst h; exact call_isiE
end
end L2

set_option maxHeartbeats 1000000
namespace L2
open PySem PySem.Spec PyProof.Rows
section
variable {X : Cx}
end
end L2

set_option maxHeartbeats 1000000
namespace L2
open PySem PySem.Spec PyProof.Rows PySem.Builtin PySem.Builtin.Str
section
variable {X : Cx}
/-! ### a text's words: z.split(y) -/
noncomputable def rSplit : V → List V → Hp → VK → Prop := fun x vs H Q => ∃ z y : Str, x = .str z ∧ vs = [.str y] ∧ (y.length == 0) = false ∧ z.length ≤ sizeLine ∧ (Txt.split z y).length ≤ sizeLine ∧ ∀ D, H D = none → Q (.ref D) (upd H D (.lst ((Txt.split z y).map V.str)))
theorem strs_vals : ∀ l : List (Str × Tok), Vals ((l.map (·.1)).map V.str) (strValues l)
  | [] => .nil
  | p :: r => .cons ⟨p.2, rfl⟩ (strs_vals r)
theorem mt_split : MtM X "str.split" rSplit := by
  intro pins s σ H x vs v us Q I rx rv h
  obtain ⟨z, y, rfl, rfl, hy, hz, hn, q⟩ := h
  obtain ⟨t, rfl⟩ := rx
  obtain ⟨u, rfl, ru⟩ := rv.one
  obtain ⟨t', rfl⟩ := ru
  have hf : H s.heap.objs.size = none := I.hok.fresh (Nat.le_refl _)
  have fin : ∀ (l : List (Str × Tok)) (tk : Nat), l.map (·.1) = Txt.split z y → EP X pins σ Q (.ref s.heap.objs.size) { s with heap := s.heap.push { cls := .type "list", data := .seq (strValues l).toArray }, toks := tk } := fun l tk e => by
    refine ⟨.ref s.heap.objs.size, _, I.laid (t' := tk) (fun b u e => Heap.get?_push_of_some _ e) (Nat.le_refl _) ?_, rfl, q _ hf⟩
    have vv := strs_vals l
    rw [e] at vv
    exact ⟨by rw [List.length_map]; exact hn, strValues l, 0, vv, Heap.get?_push_size _ rfl⟩
  cases h1 : (decide (z.length < y.length) || decide (strKind z < strKind y)) with
  | true =>
    have e : Txt.split z y = [z] := if_pos h1
    exact call_meets F.slot_str_split (typeIs_str _ _ _) F.entry_str_split (F.args_str_split_2 _ _) (meets_str_split_cannot_occur z y t t' h1) (fin [(z, t)] s.toks e.symm)
  | false =>
    have e0 : Txt.split z y = if (occurrences z y 0 z.length (z.length + 1)).isEmpty = true then [z] else partsBetween z (occurrences z y 0 z.length (z.length + 1)) y.length := if_neg (by rw [h1]; decide)
    cases hf : (occurrences z y 0 z.length (z.length + 1)).isEmpty with
    | true => exact call_meets F.slot_str_split (typeIs_str _ _ _) F.entry_str_split (F.args_str_split_2 _ _) (meets_str_split_not_found z y t t' h1 hy hf) (fin [(z, t)] s.toks (by rw [e0, hf]; rfl))
    | false =>
      rw [hf] at e0
      have e1 : Txt.split z y = partsBetween z (occurrences z y 0 z.length (z.length + 1)) y.length := e0
      refine call_meets F.slot_str_split (typeIs_str _ _ _) F.entry_str_split (F.args_str_split_2 _ _) (meets_str_split_sep z y t t' h1 hy hf hz (by rw [← e1]; exact hn)) ?_
      show wants _ _ _ { s with toks := _, heap := s.heap.push { cls := .type "list", data := .seq (strsFrom s.toks (partsBetween z (occurrences z y 0 z.length (z.length + 1)) y.length)).toArray } }
      rw [strsFrom_eq]
      exact fin (numbered s.toks _) _ ((numbered_texts _ _).trans e1.symm)
/-! ### x in a dict that stands at the text's top -/
variable {o i : Expr} {td ty : TE}
noncomputable def tDNotInC (P : Program) (w : World) (K : PySem.W.Frag) (ty td : TE) : TE := fun σ H Q => ty σ H fun y H1 => td σ H1 fun x H2 => ∃ a kvs k, x = .ref a ∧ DkK P w K a kvs ∧ y = kV k ∧ Q (.bl (!(valV kvs k).isSome)) H2
theorem pc_dnotinC (hi : PE X i ty) (ho : PE X o td) : PC X .NotIn i o (tDNotInC X.prog X.w X.K ty td) := by
  intro pins s σ H Q I h
  refine thn (hi pins s σ H _ I h) fun iv s1 ⟨y, H1, I1, ry, q1⟩ => thn (ho pins s1 σ H1 _ I1 q1) fun u s2 ⟨x, H2, I2, rx, a, kvs, k, ex, hd, ey, q2⟩ => ?_
  subst ex ey
  obtain rfl : u = Value.ref a := rx
  obtain ⟨z, hl, vs, rel, hd⟩ := hd
  have dd := hd _ I2.kIn
  refine wpAny_notIn_of (kV_is ry) z dd.mapOf ?_
  rw [← (rel.val k).isSome_eq]
  exact ⟨.bl _, H2, I2.tok _, rfl, q2⟩
end
/-! ### a set of texts -/
noncomputable def ad (acc : List Str) (z : Str) : List Str := if z ∈ acc then acc else acc ++ [z]
noncomputable def met (zs : List Str) : List Str := zs.foldl ad []
theorem met_snoc (zs : List Str) (z : Str) : met (zs ++ [z]) = ad (met zs) z := by
  unfold met
  rw [List.foldl_append]
  rfl
theorem met_len (zs : List Str) : (met zs).length ≤ zs.length ∧ ((met zs).length = zs.length ↔ zs.Nodup) := by
  have h : ∀ (zs acc : List Str), acc.Nodup → (zs.foldl ad acc).length ≤ acc.length + zs.length ∧ ((zs.foldl ad acc).length = acc.length + zs.length ↔ (acc ++ zs).Nodup) := by
    intro zs
    induction zs with
    | nil => intro acc ha; simp [ha]
    | cons z zs ih =>
      intro acc ha
      rw [List.foldl_cons]
      by_cases hz : z ∈ acc
      · rw [show ad acc z = acc from if_pos hz]
        obtain ⟨h1, h2⟩ := ih acc ha
        refine ⟨by rw [List.length_cons]; omega, ?_⟩
        constructor
        · intro h
          rw [List.length_cons] at h
          omega
        · intro h
          rw [List.nodup_append] at h
          exact absurd rfl (h.2.2 z hz z List.mem_cons_self)
      · rw [show ad acc z = acc ++ [z] from if_neg hz]
        have ha2 : (acc ++ [z]).Nodup := by
          rw [List.nodup_append]
          refine ⟨ha, by simp, fun a h1 b h2 => ?_⟩
          rw [List.mem_singleton.mp h2]
          exact fun e => hz (e ▸ h1)
        obtain ⟨h1, h2⟩ := ih (acc ++ [z]) ha2
        rw [List.length_append, List.length_singleton] at h1 h2
        refine ⟨by rw [List.length_cons]; omega, ?_⟩
        rw [List.length_cons, show acc.length + (zs.length + 1) = acc.length + 1 + zs.length by omega, h2, List.append_assoc]
        rfl
  have := h zs [] List.nodup_nil
  simpa [met] using this
section
variable {prog : Program} {w : World} {A : Around} {E : Value → Shared → Prop} {s : Shared}
/-- the adding, text by text -/
theorem set_adds {R : Result → Shared → Prop} {I l S : Addr} {zs : List Str} {its : List Value} (hh : A.in1.handled = none) (hv : Vals (zs.map V.str) its) (hlI : l ≠ I) (hSI : S ≠ I) (hSl : S ≠ l) (hb : zs.length + 1 < scanBound) :
    ∀ (k i : Nat) (s : Shared), zs.length - i = k → i ≤ zs.length → s.heap.IsListIter I l i → s.heap.IsList l its.toArray → s.heap.SetOf (strKind prog w) S (fun x => decide (x ∈ met (zs.take i))) (met (zs.take i)).length →
      (∀ h' tk, (∀ b o, b ≠ S → b ≠ I → s.heap.get? b = some o → h'.get? b = some o) → h'.SetOf (strKind prog w) S (fun x => decide (x ∈ met zs)) (met zs).length → R (.ok (.ret .none)) { s with heap := h', toks := tk }) →
      codeAny (model prog w) A (.builtin "set.update.loop" ⟨[.ref S, .ref I], []⟩) R s := by
  have W := Walks.list (prog := prog) (w := w) (A := A.in1) hh I l hlI its.toArray
  have hlen : zs.length = its.length := by have := hv.length; rwa [List.length_map] at this
  have hsz : its.toArray.size = zs.length := by rw [List.size_toArray, hlen]
  intro k
  induction k with
  | zero =>
    intro i s hk hi hit hil hS hR
    have e : i = zs.length := by omega
    subst e
    rw [List.take_length] at hS
    refine codeAny_builtin PyProof.Rows.F.entry_set_update_loop ?_
    rw [Around.under_plainId PyProof.Rows.F.plain_set_update_loop _]
    show wpAny _ A.in1 (pyNext (.ref I) >>= _) _ _ s
    refine wpAny_bind (W.done s _ _ (by rw [hsz]; exact ⟨hit, hil⟩) fun h' tk kp => ?_)
    refine wpAny_pure (hR h' tk (fun b o _ hb e => kp b o (by simpa using hb) e) ?_)
    obtain ⟨o, es, ep, t, ho, rest⟩ := hS
    exact ⟨o, es, ep, t, kp S o (by simpa using hSI) ho, rest⟩
  | succ k ih =>
    intro i s hk hi hit hil hS hR
    have hlt : i < zs.length := by omega
    refine codeAny_builtin PyProof.Rows.F.entry_set_update_loop ?_
    rw [Around.under_plainId PyProof.Rows.F.plain_set_update_loop _]
    show wpAny _ A.in1 (pyNext (.ref I) >>= _) _ _ s
    refine wpAny_bind (W.item i s _ _ (by rw [hsz]; exact hlt) ⟨hit, hil⟩ fun v h' tk pv st kp => ?_)
    have hvi : its[i]? = some v := by simpa using pv
    obtain ⟨z, hz⟩ : ∃ z, zs[i]? = some z := ⟨zs[i], List.getElem?_eq_getElem hlt⟩
    obtain ⟨u, hu, ru⟩ := Vals.get hv (i := i) (x := .str z) (by rw [List.getElem?_map, hz]; rfl)
    obtain ⟨t, rfl⟩ := ru
    have ev : v = .str z t := Option.some.inj (hvi.symm.trans hu)
    subst ev
    have hS' : h'.SetOf (strKind prog w) S (fun x => decide (x ∈ met (zs.take i))) (met (zs.take i)).length := by
      obtain ⟨o, es, ep, tb, ho, rest⟩ := hS
      exact ⟨o, es, ep, tb, kp S o (by simpa using hSI) ho, rest⟩
    show wpAny _ A.in1 (holding [Value.str z t] (setAdd S (.str z t)) >>= _) _ _ _
    refine wpAny_bind (wpAny_holding ?_)
    unfold setAdd
    refine wpAny_holding (wpAny_bind ((strKind prog w).pyHash (k := z) (by show Value.isStrOf z (.str z t) = true; simp [Value.isStrOf]) ?_))
    have hml : (met (zs.take i)).length ≤ zs.length := by
      have := (met_len (zs.take i)).1
      rw [List.length_take] at this
      omega
    refine wpAny_setAddHashed_of (knd := strKind prog w) (s := { s with heap := h', toks := tk + 1 }) (k := z) (by show Value.isStrOf z (.str z t) = true; simp [Value.isStrOf]) rfl hS' (by omega) fun h2 hsb hS2 => ?_
    have htk : zs.take (i + 1) = zs.take i ++ [z] := by
      obtain ⟨hl, e⟩ := List.getElem?_eq_some_iff.mp hz
      rw [List.take_succ_eq_append_getElem hl, e]
    have hS3 : h2.SetOf (strKind prog w) S (fun x => decide (x ∈ met (zs.take (i + 1)))) (met (zs.take (i + 1))).length := by
      rw [htk, met_snoc]
      have e1 : (fun k' => decide (k' ∈ met (zs.take i)) || decide (k' = z)) = fun x => decide (x ∈ ad (met (zs.take i)) z) := by
        funext x
        unfold ad
        by_cases h : z ∈ met (zs.take i)
        · rw [if_pos h]
          by_cases hx : x = z
          · subst hx; simp [h]
          · simp [hx]
        · rw [if_neg h]
          by_cases hx : x = z
          · subst hx; simp
          · simp [hx]
      have e2 : (if decide (z ∈ met (zs.take i)) = true then (met (zs.take i)).length else (met (zs.take i)).length + 1) = (ad (met (zs.take i)) z).length := by
        unfold ad
        by_cases h : z ∈ met (zs.take i)
        · rw [if_pos h, if_pos (decide_eq_true h)]
        · rw [if_neg h, if_neg (by simpa using h), List.length_append, List.length_singleton]
      rw [e1, e2] at hS2
      exact hS2
    refine wpAny_pure ⟨plainId_quiet PyProof.Rows.F.plain_set_update_loop _, ih (i + 1) _ (by omega) hlt ?_ ?_ hS3 fun h3 tk3 kp3 hS4 => ?_⟩
    · obtain ⟨o, e, r⟩ := st.1
      exact ⟨o, (hsb.2 I (Ne.symm hSI)).trans e, r⟩
    · obtain ⟨o, e, r⟩ := st.2
      exact ⟨o, (hsb.2 l (Ne.symm hSl)).trans e, r⟩
    · exact hR h3 tk3 (fun b o b1 b2 e => kp3 b o b1 b2 ((hsb.2 b b1).trans (kp b o (by simpa using b2) e))) hS4
noncomputable abbrev newSet (led : Bool) : Obj := { cls := .type "set", dict := none, data := .set #[] 0 (.fresh 0 0 led) }
set_option maxHeartbeats 3200000 in
theorem set_of_strs {l : Addr} {zs : List Str} {its : List Value} {Q : Value → Shared → Prop} (hh : A.handled = none) (hl : s.heap.IsList l its.toArray) (hv : Vals (zs.map V.str) its) (hb : zs.length + 1 < scanBound)
    (h : ∀ h' tk, h'.SetOf (strKind prog w) s.heap.objs.size (fun x => decide (x ∈ met zs)) (met zs).length → (∀ b o, s.heap.get? b = some o → h'.get? b = some o) → Q (.ref s.heap.objs.size) { s with heap := h', toks := tk }) :
    wpAny (model prog w) A (call (.type "set") [.ref l]) Q E s := by
  obtain ⟨c, tl, hmro⟩ := PySem.F.called_set.mro
  have hmade := PySem.F.called_set.made
  have hsub := PySem.F.called_set.sub
  refine wpAny_call (codeAny_of_tree ?_)
  show wpAny _ _ (callAny (.type "set") _) _ _ _
  refine wpAny_pure ⟨Code.quiet_builtin _ (by decide +kernel), codeAny_builtin PySem.F.entry_type_call ?_⟩
  rw [Around.under_plain (weight_type_call_type "set" [.ref l] []) rfl]
  have h1 := PySem.F.called_set.notType
  have h2 := PySem.F.called_set.canCreate
  have hct := PySem.F.typeCall_set_1 (.ref l)
  repeat (any_goals (first | assumption | wp_step))
  refine codeAny_mono (code_set_new_1 (.ref l) (E := E) (Q₁ := fun obj s₁ => ∃ led : Bool, obj = .ref s.heap.objs.size ∧ s₁ = { s with heap := s.heap.push (newSet led) }) fun led => ⟨led, rfl, rfl⟩) fun r s₁ hr => ?_
  rcases r with e | (_ | _ | _ | obj)
  · exact hr
  · exact hr.elim
  · exact hr.elim
  · exact hr.elim
  obtain ⟨led, rfl, rfl⟩ := hr
  have hS : (s.heap.push (newSet led)).get? s.heap.objs.size = some (newSet led) := Heap.get?_push_size _ rfl
  have hT : Shared.TypeIs { s with heap := s.heap.push (newSet led) } (.ref s.heap.objs.size) "set" := ⟨_, hS, rfl⟩
  have hli := PySem.F.called_set.init.lookup
  have hbi := PySem.F.called_set.init.bind (.ref s.heap.objs.size)
  repeat (any_goals (first | assumption | wp_step))
  refine codeAny_mono (codeAny_call_builtin (R := wants (fun r s₂ => r = .none ∧ ∃ h' tk, s₂ = { s with heap := h', toks := tk } ∧ h'.SetOf (strKind prog w) s.heap.objs.size (fun x => decide (x ∈ met zs)) (met zs).length ∧
    (∀ b o, s.heap.get? b = some o → h'.get? b = some o)) E) PySem.F.called_set.init.plain PySem.F.entry_set_init (check_set_init_1 hT ?_)) fun r₂ s₂ hr₂ => ?_
  · obtain ⟨ol, hol, hcl, nl, hdl⟩ := hl
    obtain ⟨ocls, odict, odata, oslots⟩ := ol
    simp only at hcl hdl
    subst hcl hdl
    have hol' : (s.heap.push (newSet led)).get? l = some { cls := .type "list", dict := odict, data := .seq its.toArray nl, slots := oslots } := Heap.get?_push_of_some _ hol
    have hsls := PySem.F.sub_list_set
    have hslf := PySem.F.sub_list_frozenset
    have hne : (Value.type "list" == Value.type "dict") = false := by decide
    have hl1 : (s.heap.push (newSet led)).IsList l its.toArray := ⟨_, hol', rfl, nl, rfl⟩
    unfold Builtin.«set.__init__» noKeywords Builtin.Frozenset.updateFrom
    generalize hPI : pyIter = PI
    wp_walk
    subst hPI
    refine wpAny_pyIter_list hl1 (wpAny_bind (wpAny_runValue ?_))
    have hlS : l < s.heap.objs.size := Heap.lt_size hol
    have sz : (s.heap.push (newSet led)).objs.size = s.heap.objs.size + 1 := Heap.size_push _ _
    refine set_adds (I := (s.heap.push (newSet led)).objs.size) (l := l) (S := s.heap.objs.size) (by simp [hh]) hv (by rw [sz]; exact Nat.ne_of_lt (Nat.lt_succ_of_lt hlS)) (by rw [sz]; exact Nat.ne_of_lt (Nat.lt_succ_self _)) (Nat.ne_of_gt hlS) hb (zs.length - 0) 0 _ rfl (Nat.zero_le _) ⟨_, Heap.get?_push_size _ rfl, rfl, rfl⟩ (hl1.push _) ?_ fun h' tk kp hS' => ?_
    · have hget : ((s.heap.push (newSet led)).push { cls := .type "list_iterator", data := .fields #[.ref l, .int 0 0] }).get? s.heap.objs.size = some (newSet led) := Heap.get?_push_of_some _ hS
      exact PyProof.Rows.SetOf_congr ((PyProof.Rows.setObjOf_fresh (knd := strKind prog w) led).setOf hget (by unfold scanBound; omega)) (fun _ => rfl) rfl
    · refine wpAny_pure ?_
      show wpAny _ _ (ret Value.none) _ _ _
      refine wpAny_pure ⟨rfl, h', tk, rfl, hS', fun b o e => ?_⟩
      have hb : b < s.heap.objs.size := Heap.lt_size e
      exact kp b o (Nat.ne_of_lt hb) (by rw [sz]; exact Nat.ne_of_lt (Nat.lt_succ_of_lt hb)) (Heap.get?_push_of_some _ (Heap.get?_push_of_some _ e))
  · rcases r₂ with e | (_ | _ | _ | r)
    · exact hr₂
    · exact hr₂.elim
    · exact hr₂.elim
    · exact hr₂.elim
    obtain ⟨rfl, h', tk, rfl, hS', hk'⟩ := hr₂
    repeat (any_goals (first | assumption | wp_step))
    exact h _ _ hS' hk'
end
section
variable {X : Cx}
/-- a set of n texts -/
noncomputable def StrS (P : Program) (w : World) (a : Addr) (n : Nat) : HO := .ext fun h => ∃ S, h.SetOf (strKind P w) a S n
noncomputable def rSetS (P : Program) (w : World) (K : PySem.W.Frag) : List V → Hp → VK → Prop := fun xs H Q => ∃ (l : Addr) (zs : List Str), xs = [.ref l] ∧ SqL K H l (zs.map V.str) ∧ zs.length ≤ 1000 ∧ ∀ D, H D = none → Q (.ref D) (upd H D (StrS P w D (met zs).length))
theorem call_setS (hc : X.calm = true) : CallR X (.type "set") (rSetS X.prog X.w X.K) := by
  intro pins s σ H xs us Q I r h
  obtain ⟨l, zs, rfl, hl, hn, q⟩ := h
  obtain ⟨u, rfl, ru⟩ := vals1 r
  obtain rfl : u = Value.ref l := ru
  obtain ⟨its, v, P1, z1⟩ := I.list hl
  refine set_of_strs (I.ok.hd hc) P1.isList v (by unfold scanBound; omega) fun h' tk hS kp => ?_
  refine ⟨.ref s.heap.objs.size, _, I.laid (t' := tk) kp (Nat.le_refl _) ?_, rfl, q _ (I.hok.fresh (Nat.le_refl _))⟩
  obtain ⟨o, es, ep, t, ho, rest⟩ := id hS
  refine ⟨⟨_, hS⟩, ⟨o, ho⟩, ?_⟩
  rintro h1 h2 ⟨S, o, es, ep, t, e, r⟩ k
  exact ⟨S, o, es, ep, t, k _ e, r⟩
noncomputable def rLenS (P : Program) (w : World) : List V → Hp → VK → Prop := fun xs H Q => ∃ (D : Addr) (n : Nat), xs = [.ref D] ∧ H D = some (StrS P w D n) ∧ n ≤ 1000 ∧ Q (.int n) H
theorem call_lenS : CallR X (.builtin "len") (rLenS X.prog X.w) := by
  intro pins s σ H xs us Q I r h
  obtain ⟨D, n, rfl, hD, hn, q⟩ := h
  obtain ⟨u, rfl, ru⟩ := vals1 r
  obtain rfl : u = Value.ref D := ru
  obtain ⟨S, o, es, ep, t, ho, hex, hd, _, _, _, hf, hsz⟩ := (I.hok D _ hD).1
  refine call_len_set ho hex hd hf (by rw [hsz]; omega) ?_
  rw [hsz]
  exact ⟨.int n, H, (I.tok _), ⟨_, rfl⟩, q⟩
end
end L2

set_option maxHeartbeats 1000000
namespace L2
open PySem PySem.Spec PyProof.Rows
/-! ### the parts of a joined text -/
noncomputable def jl (c : Nat) : List (List Nat) → List Nat
  | [] => []
  | [a] => a
  | a :: b :: r => a ++ c :: jl c (b :: r)
theorem cl_join (c : Nat) : ∀ zs : List Str, (Str.join ⟨#[c]⟩ zs).cps.toList = jl c (zs.map fun z => z.cps.toList)
  | [] => rfl
  | [a] => rfl
  | a :: b :: r => by
    rw [join_cons_cons]
    have ih := cl_join c (b :: r)
    show (a.cps ++ #[c] ++ (Str.join ⟨#[c]⟩ (b :: r)).cps).toList = _
    rw [Array.toList_append, ih, Array.toList_append]
    simp [jl]
theorem split_app {c : Nat} : ∀ {a b r s : List Nat}, c ∉ a → c ∉ b → a ++ c :: r = b ++ c :: s → a = b ∧ r = s
  | [], [], r, s, _, _, h => ⟨rfl, by injection h⟩
  | [], y :: b, r, s, _, hb, h => by
    injection h with h1 h2
    exact absurd (by rw [h1]; exact List.mem_cons_self) hb
  | x :: a, [], r, s, ha, _, h => by
    injection h with h1 h2
    exact absurd (by rw [← h1]; exact List.mem_cons_self) ha
  | x :: a, y :: b, r, s, ha, hb, h => by
    injection h with h1 h2
    obtain ⟨e1, e2⟩ := split_app (fun z => ha (List.mem_cons_of_mem _ z)) (fun z => hb (List.mem_cons_of_mem _ z)) h2
    exact ⟨by rw [h1, e1], e2⟩
theorem jl_inj {c : Nat} : ∀ {as bs : List (List Nat)}, as ≠ [] → bs ≠ [] → (∀ a ∈ as, c ∉ a) → (∀ b ∈ bs, c ∉ b) → jl c as = jl c bs → as = bs
  | [], _, h, _, _, _, _ => absurd rfl h
  | _ :: _, [], _, h, _, _, _ => absurd rfl h
  | [a], [b], _, _, _, _, h => by rw [show a = b from h]
  | [a], b :: b2 :: r, _, _, ha, _, h => by
    have h' : a = b ++ c :: jl c (b2 :: r) := h
    exact absurd (by rw [h']; exact List.mem_append_right _ List.mem_cons_self) (ha a List.mem_cons_self)
  | a :: a2 :: r, [b], _, _, _, hb, h => by
    have h' : a ++ c :: jl c (a2 :: r) = b := h
    exact absurd (by rw [← h']; exact List.mem_append_right _ List.mem_cons_self) (hb b List.mem_cons_self)
  | a :: a2 :: r, b :: b2 :: s, _, _, ha, hb, h => by
    obtain ⟨e1, e2⟩ := split_app (ha a List.mem_cons_self) (hb b List.mem_cons_self) (show a ++ c :: jl c (a2 :: r) = b ++ c :: jl c (b2 :: s) from h)
    rw [e1, jl_inj (by simp) (by simp) (fun x hx => ha x (List.mem_cons_of_mem _ hx)) (fun x hx => hb x (List.mem_cons_of_mem _ hx)) e2]
theorem split_ne (x y : Str) : Txt.split x y ≠ [] := by
  unfold Txt.split
  split
  · simp
  · split
    · simp
    · rw [StrLaws.partsBetween_eq]
      obtain ⟨p, r, e⟩ := StrLaws.partsFrom_ne x y.length 0 (Builtin.Str.occurrences x y 0 x.length (x.length + 1))
      rw [e]
      simp
theorem split_join {c : Nat} {zs : List Str} (hne : zs ≠ []) (h : ∀ z ∈ zs, c ∉ z.cps.toList) : Txt.split (Txt.join ⟨#[c]⟩ zs) ⟨#[c]⟩ = zs := by
  have ej : Txt.join ⟨#[c]⟩ zs = Str.join ⟨#[c]⟩ zs := by
    show Builtin.Str.glued _ zs = _
    rw [StrLaws.glued_eq_join]
  generalize hx : Txt.join ⟨#[c]⟩ zs = x
  have h1 := StrLaws.join_split x ⟨#[c]⟩
  have hxl : x.cps.toList = jl c (zs.map fun z => z.cps.toList) := by rw [← hx, ej]; exact cl_join c zs
  have hxs : x.cps.toList = jl c ((Txt.split x ⟨#[c]⟩).map fun z => z.cps.toList) := by
    have := cl_join c (Txt.split x ⟨#[c]⟩)
    rw [h1] at this
    exact this
  have hsne : Txt.split x ⟨#[c]⟩ ≠ [] := split_ne x _
  have hfree : ∀ a ∈ (Txt.split x ⟨#[c]⟩).map (fun z => z.cps.toList), c ∉ a := fun a ha => by
    obtain ⟨z, hz, rfl⟩ := List.mem_map.mp ha
    exact StrLaws.split_free x c z hz
  have e := jl_inj (c := c) (by simpa using hsne) (by simpa using hne) hfree (fun a ha => by
    obtain ⟨z, hz, rfl⟩ := List.mem_map.mp ha
    exact h z hz) (hxs.symm.trans hxl)
  have inj : ∀ (as bs : List Str), as.map (fun z => z.cps.toList) = bs.map (fun z => z.cps.toList) → as = bs := by
    intro as
    induction as with
    | nil =>
      intro bs h
      cases bs with
      | nil => rfl
      | cons b r => cases h
    | cons a r ih =>
      intro bs h
      cases bs with
      | nil => cases h
      | cons b s =>
        rw [List.map_cons, List.map_cons] at h
        injection h with h1 h2
        rw [ih s h2, Str.ext' (Array.toList_inj.mp h1)]
  exact inj _ _ e
section
variable {X : Cx}
/-! ### sep.join(texts), any texts -/
noncomputable def rJoinW (K : PySem.W.Frag) : V → List V → Hp → VK → Prop := fun x vs H Q => ∃ (z : Str) (l : Addr) (zs : List Str), x = .str z ∧ vs = [.ref l] ∧ SqL K H l (zs.map V.str) ∧ (zs.map (·.length)).sum + zs.length ≤ 1048576 ∧ z.length ≤ 16 ∧ Q (.str (Txt.join z zs)) H
theorem strs_are : ∀ {zs : List Str} {us : List Value}, Vals (zs.map V.str) us → StrsAre us zs
  | [], _, .nil => .nil
  | z :: zs, _, .cons r t => by
    obtain ⟨k, rfl⟩ := r
    exact .cons z k (strs_are t)
theorem mt_joinW : MtM X "str.join" (rJoinW X.K) := by
  intro pins s σ H x vs v us Q I rx rv h
  obtain ⟨z, l, zs, rfl, rfl, hl, hn, hz, q⟩ := h
  obtain ⟨t, rfl⟩ := rx
  obtain ⟨u, rfl, ru⟩ := rv.one
  obtain rfl : u = Value.ref l := ru
  obtain ⟨its, v, P1, z1⟩ := I.list hl
  exact join_listW P1.isList (by simpa using strs_are v) hz hn fun t' k => ⟨.str (Txt.join z zs), H, I.tok k, ⟨t', rfl⟩, q⟩
end
end L2

set_option maxHeartbeats 1000000
/-! A COMPREHENSION THAT HANDS ON AN EXCEPTION of what it makes. -/
namespace L2
open PySem PySem.Spec PyProof.Rows
section
variable {M : Model} {A : Around} {E : Value → Shared → Prop} {s : Shared}
theorem frames_keep {h h' base : Heap} : ∀ {l : List Env}, h.FunFrames base l → (∀ b ∈ frs l, ∀ o, h.get? b = some o → ∃ o', h'.get? b = some o' ∧ o'.data = o.data) → h'.FunFrames base l
  | [], _, _ => trivial
  | env :: rest, ⟨hk, ⟨L, o, hf, hb, ho, hd⟩, hr⟩, k => by
    have e : frs (env :: rest) = L :: frs rest := by
      show List.filterMap (·.frame) (env :: rest) = _
      rw [List.filterMap_cons, hf]
      rfl
    obtain ⟨o', ho', e'⟩ := k L (by rw [e]; exact List.mem_cons_self) o ho
    exact ⟨hk, ⟨L, o', hf, hb, ho', fun vs q => hd vs (e' ▸ q)⟩, frames_keep hr fun b hb => k b (by rw [e]; exact List.mem_cons_of_mem _ hb)⟩
/-- the frame is noted, whatever mark the newest entry has -/
theorem note_any {base : Heap} {env : Env} {outer : List Env} {L e T0 : Addr} {cls fl : Value} {dct : Option Addr} {Q : Unit → Shared → Prop}
    (hfr : A.frames = some (env :: outer)) (hl : s.heap.FunFrames base (env :: outer)) (hf : env.frame = some L) (ht : FlyAt s.heap e T0 cls dct fl)
    (h : ∀ h' T, (∀ b o, b ≠ e → b ≠ T0 → b ∉ frs (env :: outer) → s.heap.get? b = some o → h'.get? b = some o) → (∀ b o, b ≠ e → b ≠ T0 → s.heap.get? b = some o → ∃ sl, h'.get? b = some { o with slots := sl }) → (T = T0 ∨ s.heap.objs.size ≤ T) →
      FlyAt h' e T cls dct (rawInt L) → Q () { s with heap := h' }) : wpAny M A (noteFrame (.ref e) env) Q E s := by
  obtain ⟨oe, vs, oT, ts, he, rfl, rfl, hd, h1, ne, hT, hdT, h3⟩ := ht
  unfold noteFrame
  simp only [hf]
  refine wpAny_bind (wpAny_field he hd h1 ?_)
  rw [if_pos (show (Value.ref T0 != Value.none) = true from by simp)]
  refine wpAny_bind (wpAny_field hT hdT h3 ?_)
  by_cases hfl : (fl == rawInt L) = true
  · rw [if_pos hfl]
    have e1 : fl = rawInt L := by simpa using hfl
    subst e1
    exact wpAny_pure (h s.heap T0 (fun b o _ _ _ q => q) (fun b o _ _ q => ⟨o.slots, q⟩) (.inl rfl) ⟨oe, vs, oT, ts, he, rfl, rfl, hd, h1, ne, hT, hdT, h3⟩)
  rw [if_neg hfl]
  refine wpAny_bind (wpAny_setField hT hdT (Array.getElem?_eq_some_iff.mp h3).1 ?_)
  have oth : ∀ b, b ≠ T0 → (s.heap.update T0 (Obj.mapFields (·.setIfInBounds 3 Value.none))).get? b = s.heap.get? b := fun b hb => Heap.get?_update_other _ _ (Ne.symm hb)
  have nrec : ∀ b o, s.heap.get? b = some o → (∀ vs, o.data ≠ .fields vs) → b ≠ T0 := fun b o hb hnf q => by
    rw [q, hT] at hb
    cases hb
    exact hnf ts hdT
  have hl' : (s.heap.update T0 (Obj.mapFields (·.setIfInBounds 3 Value.none))).FunFrames base (env :: outer) := hl.of_keeps fun b o hb hnf => ⟨o, (oth b (nrec b o hb hnf)).trans hb, rfl⟩
  refine entry_x (s := { s with heap := s.heap.update T0 (Obj.mapFields (·.setIfInBounds 3 Value.none)) }) hfr hl' hf ((oth e (Ne.symm ne)).trans he) hd (Array.getElem?_eq_some_iff.mp h1).1 fun h' T N F => ?_
  exact h h' T (fun b o b1 b2 b3 q => N.keep b o b1 b3 ((oth b b2).trans q)) (fun b o b1 b2 q => N.slot b o b1 ((oth b b2).trans q)) (.inr (Nat.le_trans (Nat.le_of_eq (Heap.size_after_update _ _ _).symm) N.new)) F
/-- .. the mark is set to another frame's, and it is handed on -/
theorem pass_on {e T : Addr} {cls fl : Value} {dct : Option Addr} {what : String} {cenv : Env} {Q : Value → Shared → Prop} (F : FlyAt s.heap e T cls dct fl)
    (h : ∀ h' fl', (∀ b o, b ≠ T → s.heap.get? b = some o → h'.get? b = some o) → h'.objs.size = s.heap.objs.size → FlyAt h' e T cls dct fl' → E (.ref e) { s with heap := h' }) : wpAny M A (PySem.passOn what (.ref e) cenv : Sem Value) Q E s := by
  obtain ⟨oe, vs, oT, ts, he, hc, hdx, hd, h1, ne, hT, hdT, h3⟩ := F
  unfold PySem.passOn setFlight
  have hsz : 3 < ts.size := (Array.getElem?_eq_some_iff.mp h3).1
  refine wpAny_bind (wpAny_field he hd h1 ?_)
  rw [if_neg (show ¬ (Value.ref T == Value.none) = true from by simp)]
  refine wpAny_bind (wpAny_bind (wpAny_field he hd h1 ?_))
  rw [if_pos (show (Value.ref T != Value.none) = true from by simp)]
  refine wpAny_setField hT hdT hsz ?_
  refine wpAny_throw ?_
  refine h _ (cenv.frame.elim .none fun f => rawInt f) (fun b o hb q => ?_) (Heap.size_after_update _ _ _) ?_
  · rw [Heap.get?_update_other _ _ (Ne.symm hb)]
    exact q
  · refine ⟨oe, vs, _, _, ?_, hc, hdx, hd, h1, ne, Heap.get?_update_self _ hT (Obj.isFreed_of_fields (Obj.data_mapFields hdT _)), Obj.data_mapFields hdT _, by simp [hsz]⟩
    rw [Heap.get?_update_other _ _ ne]
    exact he
end
/-- a block's exception: its state, and how it left the callee -/
noncomputable def XeR (B : Cx) (E : XK) : Value → Shared → Prop := fun ev s' => ∃ (pins : List (Addr × Obj)) (σ : St) (H : Hp) (s : Shared), Inv B pins σ H s ∧ CX1 B.prog B.w B.stack H s E ev s'
theorem passR {B : Cx} {E : XK} : Passes (CX1 B.prog B.w) (B.wish (XeR B E)) E := fun pins σ H s ev s' I h => ⟨pins, σ, H, s, I.unwish, h⟩
/-- what stands around hands on a block's exception -/
noncomputable def HandsOn (X : Cx) (E : XK) : Prop := ∀ (scope : Scope) (N : List Str) (cl : List (Str × Addr)) (fp : List Addr) (pins : List (Addr × Obj)) (σ : St) (H : Hp) (s : Shared) (ev : Value) (s' : Shared) (Q : Value → Shared → Prop) (acc : Value), Inv X pins σ H s → (∀ b ∈ fp, FpOk X pins H b) → XeR (X.blk scope N cl s.heap.objs.size s H fp pins) E ev s' →
  notedBy (model X.prog X.w) X.A (compEnvC scope cl s.heap.objs.size X.env) (fun e s'' => compPost (model X.prog X.w) X.A X.xe none Q acc s.heap.objs.size (.error e) s'') ev s'
section
variable {X : Cx} {elt iter tg : Expr} {ifs : List Expr} {scope : Scope} {pos : Pos} {own capn : List Str} {capI : List Nat} {wi : TI} {g : TG} {tt : TT} {te : TE}
theorem pe_lcX {E : XK} (HX : HandsOn X E) (hc : X.calm = true) (B : BlkScope X scope own capn capI) (hi : PI X tg iter wi) (hg : ∀ cl C s H fp pins, PG (X.blk scope (own ++ capn) cl C s H fp pins) tg g)
    (ht : ∀ cl C s H fp pins, PIfs (X.blk scope (own ++ capn) cl C s H fp pins) ifs tt) (he : ∀ cl C s H fp pins, PE ((X.blk scope (own ++ capn) cl C s H fp pins).wish (XeR (X.blk scope (own ++ capn) cl C s H fp pins) E)) elt te)
    (hs : ∀ x, foldedSetIterable iter X.env x = pure x := by intro _; rfl) : PE X (.ListComp elt [⟨tg, iter, ifs, 0⟩] scope pos) (tLC wi own.length capI g tt te) := by
  intro pins s σ H Q I h
  rw [eval_ListComp]
  obtain ⟨cl, hclos, hcl, hcf⟩ := closure_of (env := X.env) (scope := scope) (fun y hy hf => I.ok.has y.1 (.inl (B.free y hy hf)))
  refine wpAny_comprehension_free (use := none) rfl hs hclos B.kind B.names (thn (hi pins s σ H _ I h) fun v s1 h1 => thn h1 fun itv s2 h2 => ?_)
  obtain ⟨it, fp, tn, J, H2, e, I2, T, st2, f2, hW⟩ := h2
  subst e
  obtain ⟨W, ⟨m0, w0⟩, turn⟩ := hW s2.heap.objs.size (I2.hok.fresh (Nat.le_refl _))
  refine wpAny_newObj_type (wpAny_newFunctionEnv B.cell (by intro y hy; simp at hy) (fun h4 hns hsb => ?_) B.kind)
  dsimp only at hns hsb ⊢
  have I3 : Inv X pins σ (upd H2 s2.heap.objs.size (.lst [])) { s2 with heap := s2.heap.push { cls := .type "list", dict := none, data := .seq ([] : List Value).toArray } } :=
    I2.laid (t' := s2.toks) (fun b u e => Heap.get?_push_of_some _ e) (Nat.le_refl _) ⟨Nat.zero_le _, [], 0, .nil, Heap.get?_push_size _ rfl⟩
  generalize hs3 : ({ s2 with heap := s2.heap.push { cls := .type "list", dict := none, data := .seq ([] : List Value).toArray } } : Shared) = s3 at I3
  have e3 : s2.heap.push { cls := .type "list", dict := none, data := .seq ([] : List Value).toArray } = s3.heap := by rw [← hs3]
  have ob2 : ∀ b ∈ fp, ∃ o, s2.heap.get? b = some o := fun b hb => let ⟨o, z, _⟩ := T.obj _ _ st2 b hb; ⟨o, z⟩
  have up3 : ∀ b o, s2.heap.get? b = some o → s3.heap.get? b = some o := fun b o z => by
    rw [← e3]
    exact Heap.get?_push_of_some _ z
  have f3 : ∀ b ∈ fp, FpOk X pins (upd H2 s2.heap.objs.size (.lst [])) b := fun b hb => by
    obtain ⟨o, z⟩ := ob2 b hb
    exact ⟨by rw [upd_ne (Nat.ne_of_lt (Heap.lt_size z))]; exact (f2 b hb).1, (f2 b hb).2⟩
  have ob3 : ∀ b ∈ fp, ∃ o, s3.heap.get? b = some o := fun b hb => let ⟨o, z⟩ := ob2 b hb; ⟨o, up3 b o z⟩
  rw [e3] at hns hsb ⊢
  have up4 : ∀ b o, s3.heap.get? b = some o → h4.get? b = some o := fun b o z => (hsb.2 b (Nat.ne_of_lt (Heap.lt_size z))).trans (Heap.get?_push_of_some _ z)
  have IB := blk_start (t' := s2.toks + ([] : List (Str × Value)).length) B I3 f3 ob3 hcl hcf hns up4
  have e4 : ({ s3 with heap := h4, toks := s2.toks + ([] : List (Str × Value)).length } : Shared) = { s2 with heap := h4, toks := s2.toks + ([] : List (Str × Value)).length } := by rw [← hs3]
  rw [e4] at IB
  have tn4 : tn 0 h4 := T.keep _ _ _ st2 fun b hb o z => up4 b o (up3 b o z)
  have fst : ∀ {H' : Hp}, (∀ b ∈ fp, H' b = none) → ∀ b ∈ fp, FpOk (X.blk scope (own ++ capn) cl s3.heap.objs.size s3 (upd H2 s2.heap.objs.size (.lst [])) fp pins) [] H' b := fun {H'} hn b hb => by
    obtain ⟨o, z⟩ := ob3 b hb
    refine ⟨hn b hb, Nat.ne_of_lt (Heap.lt_size z), fun y => ?_, .inl hb, fun x c ec => (f3 b hb).2.2.2.2.1 x c (hcl x c ec), fun p hp => (f3 b hb).2.2.2.2.2 p (by have y : p ∈ (X.pn ++ pins) ++ [] := hp; simpa using y)⟩
    rcases List.mem_cons.mp (I3.stkSub b y) with y | y
    · exact (f3 b hb).2.1 y
    · exact (f3 b hb).2.2.1 y
  have loop : codeAny (model X.prog X.w) X.A (.compLoop (.ListComp elt [⟨tg, iter, ifs, 0⟩] scope pos) 0 (.ref it) (.ref s2.heap.objs.size) (compEnvC scope cl s3.heap.objs.size X.env))
      (compPost (model X.prog X.w) X.A X.xe none (EP X pins σ Q) (.ref s2.heap.objs.size) s3.heap.objs.size) { s2 with heap := h4, toks := s2.toks + ([] : List (Str × Value)).length } := by
    refine comp_loop (fun n s' => ∃ i σ' acc H', Inv (X.blk scope (own ++ capn) cl s3.heap.objs.size s3 (upd H2 s2.heap.objs.size (.lst [])) fp pins) [] σ' H' s' ∧ tn i s'.heap ∧ (∀ b ∈ fp, H' b = none) ∧ W i n σ' acc H') ?_ m0 ⟨0, _, [], _, IB, tn4, fun b hb => (f3 b hb).1, w0⟩
    rintro n s5 ⟨i, σ5, acc, H5, I5, st5, fr5, w5⟩
    have no : ∀ {α : Type} {t : Sem α} {Q : α → Shared → Prop} {E : Value → Shared → Prop} {s : Shared}, wpAny (model X.prog X.w) X.A t Q (fun _ _ => False) s → wpAny (model X.prog X.w) X.A t Q E s := fun z => wpAny_mono z (fun _ _ y => y) fun _ _ y => y.elim
    rcases turn i n σ5 acc H5 w5 with ⟨stop, qn⟩ | ⟨go, step⟩
    · refine no (thn (T.done (X.blk scope (own ++ capn) cl s3.heap.objs.size s3 (upd H2 s2.heap.objs.size (.lst [])) fp pins) rfl rfl rfl hc i [] s5 σ5 H5 _ I5 (fst fr5) st5 stop) fun r s6 ⟨hr, I6⟩ => ?_)
      subst hr
      obtain ⟨m, hm, _⟩ := id I6.loc
      exact ⟨m, hm, fun h' hs' => ⟨.ref s2.heap.objs.size, H5, blk_end I3 f3 I6 hs', rfl, qn⟩⟩
    · refine no (thn (T.item (X.blk scope (own ++ capn) cl s3.heap.objs.size s3 (upd H2 s2.heap.objs.size (.lst [])) fp pins) rfl rfl rfl hc i [] s5 σ5 H5 _ I5 (fst fr5) st5 go) fun r s6 ⟨u, hr, h6⟩ => ?_)
      subst hr
      refine no (thn h6 fun _ s7 ⟨x, H7, I7, r7, y7, st7, fr7⟩ => ?_)
      have I7' := I7.pinned (fst fr7) (T.obj _ _ st7)
      have kp : ∀ {σ8 : St} {H8 : Hp} {s8 : Shared}, Inv (X.blk scope (own ++ capn) cl s3.heap.objs.size s3 (upd H2 s2.heap.objs.size (.lst [])) fp pins) ([] ++ pinsAt fp s7.heap) σ8 H8 s8 → tn (i + 1) s8.heap ∧ ∀ b ∈ fp, H8 b = none := fun {σ8 H8 s8} I8 => by
        refine ⟨T.keep _ _ _ st7 fun b hb o z => (I8.pin (b, o) (List.mem_append_right _ (List.mem_append_right _ (mem_pinsAt hb z)))).1, fun b hb => ?_⟩
        obtain ⟨o, z, d⟩ := T.obj _ _ st7 b hb
        exact (I8.pin (b, o) (List.mem_append_right _ (List.mem_append_right _ (mem_pinsAt hb z)))).2.1
      refine no (thn (hg cl s3.heap.objs.size s3 _ fp pins _ s7 σ5 H7 x u _ I7' r7 (step x H7 y7)) fun _ s8 ⟨σ8, H8, I8, q8⟩ => ?_)
      refine no (thn (ht cl s3.heap.objs.size s3 _ fp pins _ s8 σ8 H8 _ I8 q8) fun b s9 ⟨H9, I9, q9⟩ => ?_)
      cases b with
      | false =>
        obtain ⟨m', hm, w9⟩ := q9
        exact ⟨m', hm, i + 1, σ8, acc, H9, I9.unpinned, (kp I9).1, (kp I9).2, w9⟩
      | true =>
        refine wpAny_mono (he cl s3.heap.objs.size s3 _ fp pins _ s9 σ8 H9 _ (I9.wish _) q9) (fun y s10 z10 => ?_) (fun ev s10 z10 => HX _ _ _ _ _ _ _ _ _ _ _ _ I3 f3 z10)
        obtain ⟨yv, H10, I10', r10, hD, hz, m', hm, w10⟩ := z10
        have I10 := I10'.unwish
        refine no (thn (mt_append _ s10 σ8 H10 (.ref s2.heap.objs.size) [yv] (.ref s2.heap.objs.size) [y] (fun v H11 => v = .non ∧ H11 = upd H10 s2.heap.objs.size (.lst (acc ++ [yv]))) I10 rfl (.cons r10 .nil) ⟨_, acc, yv, rfl, rfl, hD, hz, rfl, rfl⟩) fun _ s11 ⟨_, H11, I11, _, _, e11⟩ => ?_)
        subst e11
        exact ⟨m', hm, i + 1, σ8, acc ++ [yv], _, I11.unpinned, (kp I11).1, (kp I11).2, w10⟩
  exact codeAny_compStart_list loop (T.self _ 0 _ _ _ tn4 loop)
end
section
variable {X : Cx} {pins : List (Addr × Obj)} {σ : St} {H : Hp} {s : Shared} {h' : Heap}
theorem left_ok2 (I : Inv X pins σ H s) (hex : X.ex = []) (bad : List Addr) (hb : ∀ b ∈ bad, X.s₀.heap.get? b = none ∧ H b = none)
    (k1 : ∀ b o, b ∉ bad → b ∉ frs X.stack → s.heap.get? b = some o → h'.get? b = some o) (k2 : ∀ b o, b ∉ bad → s.heap.get? b = some o → ∃ sl, h'.get? b = some { o with slots := sl }) : Un X.fs [] X.H₀ H X.s₀.heap h' ∧ HOk X.prog X.w H h' := by
  have B := I.base
  rw [hex] at B
  have nb : ∀ b o, X.s₀.heap.get? b = some o → b ∉ bad := fun b o q z => by
    rw [(hb b z).1] at q
    cases q
  have nL : ∀ b o, X.s₀.heap.get? b = some o → b ≠ X.env.locals := fun b o q => Nat.ne_of_lt (Nat.lt_of_lt_of_le (Heap.lt_size q) I.ok.above)
  have e0 : ∀ b : Addr, b ∉ ([] : List Addr) := fun b => by simp
  refine ⟨⟨fun b o q n hf _ => ?_, fun b o q n hf _ => ?_, B.free, fun b o q _ => ?_, B.tups, B.frzs, B.tbls⟩, fun a u q => ?_⟩
  · refine k1 b o (nb b o q) (fun z => ?_) (B.keep b o q n hf (e0 b))
    rcases List.mem_cons.mp (I.stkSub b z) with z | z
    · exact nL b o q z
    · exact hf z
  · obtain ⟨sl, q1⟩ := B.slot b o q n hf (e0 b)
    obtain ⟨sl', q2⟩ := k2 b _ (nb b o q) q1
    exact ⟨sl', q2⟩
  · obtain ⟨o1, q1⟩ := B.there b o q (e0 b)
    obtain ⟨sl', q2⟩ := k2 b _ (nb b o q) q1
    exact ⟨_, q2⟩
  · have tr : ∀ b v, H b = some v → b ∉ bad ∧ b ∉ frs X.stack := fun b v z => ⟨(fun y => absurd ((hb b y).2.symm.trans z) (by simp)), fun y => absurd ((I.stkFree b y).symm.trans z) (by simp)⟩
    refine (I.hok a u q).stay (fun b v hbv z => ?_) (fun _ z => z) fun _ _ z => z
    rcases hbv with rfl | hbv
    · exact k1 b v (tr b _ q).1 (tr b _ q).2 z
    · exact k1 b v (tr b _ hbv).1 (tr b _ hbv).2 z
end
section
variable {P : Program} {w : World} {K : PySem.W.Frag} {mg : Str → Option Value} {base : Heap} {N : List Str} {qual : Str} {scope : Scope} {f : Addr} {cd : Value} {A : Around} {outer : List Env} {s₀ : Shared} {H₀ : Hp} {E : XK}
theorem handsOn1 : HandsOn (cx1 P w K mg base N qual scope f cd A outer s₀ H₀ E) E := by
  intro scope' N' cl fp pins σ H s ev s' Q acc I3 hf z
  obtain ⟨pins1, σ1, H1, s1, I1, e, T0, cls, dct, H', rfl, os, bare, un, hok, F0, hne, hnT, hHe, hHT, q⟩ := z
  have I' := I1.call' (ch := []) os un hok bare fun b z => absurd z (by simp)
  have J1 := blk_end I3 hf (Inv.unpinned (pins := []) (pl := pins1) I1) (Heap.SameBut.refl _ _)
  have J := blk_end I3 hf (Inv.unpinned (pins := []) (pl := pins1) I') (Heap.SameBut.refl _ _)
  obtain ⟨m, hm, _⟩ := id I'.loc
  obtain ⟨m1, hm1, _⟩ := id I1.loc
  have hC1 : ∃ o, s1.heap.get? s.heap.objs.size = some o := by
    obtain ⟨o, _, _, ho, _⟩ := hm1
    exact ⟨o, ho⟩
  have hCe : s.heap.objs.size ≠ e := fun z => by
    obtain ⟨o, ho⟩ := hC1
    rw [z, hne] at ho
    cases ho
  have hCT : s.heap.objs.size ≠ T0 := fun z => by
    obtain ⟨o, ho⟩ := hC1
    rw [z, hnT] at ho
    cases ho
  have hCf : s.heap.objs.size ∉ frs (envOfC qual scope s₀.heap.objs.size f cd :: outer) := fun z => by
    obtain ⟨_, o, ho, _⟩ := I3.stack.mem z
    exact absurd (Heap.lt_size ho) (Nat.lt_irrefl _)
  have old : ∀ b, s1.heap.get? b = none → s₀.heap.get? b = none := fun b z => by
    cases q1 : s₀.heap.get? b with
    | none => rfl
    | some o =>
      obtain ⟨o', q2⟩ := J1.base.there b o q1 (show b ∉ ([] : List Addr) by simp)
      have q3 : s1.heap.get? b = some o' := q2
      rw [z] at q3
      cases q3
  show wpAny _ _ (noteFrame (.ref e) (envOfC qual scope s₀.heap.objs.size f cd)) _ _ s'
  refine note_next (base := base) (L := s₀.heap.objs.size) J.ok.frames J.stack rfl F0 fun h1 T k1 k2 bT F k3 => ?_
  obtain ⟨o, es, ep, ho, rest⟩ := hm
  have hCl : s.heap.objs.size < s'.heap.objs.size := Heap.lt_size ho
  have neT : T ≠ s.heap.objs.size := Nat.ne_of_gt (Nat.lt_of_lt_of_le hCl bT)
  have hT1 : T < h1.objs.size := by
    obtain ⟨_, _, oT, _, _, _, _, _, _, _, hT, _⟩ := F
    exact Heap.lt_size hT
  refine ⟨m, ⟨o, es, ep, k1 _ o hCe hCT hCf ho, rest⟩, fun h2 sb cenv hcl => ?_⟩
  have F' : FlyAt h2 e T cls dct (rawInt s₀.heap.objs.size) := by
    obtain ⟨oe, vs, oT, ts, he, a1, a2, a3, a4, a5, hT, a6, a7⟩ := F
    exact ⟨oe, vs, oT, ts, (sb.2 e hCe.symm).trans he, a1, a2, a3, a4, a5, (sb.2 T neT).trans hT, a6, a7⟩
  refine pass_on (s := { s' with heap := h2 }) F' fun h3 fl kp sz F3 => ?_
  have sz3 : s'.heap.objs.size ≤ h3.objs.size := by
    have e1 : h3.objs.size = h2.objs.size := sz
    have e2 : h2.objs.size = h1.objs.size := sb.1
    have bT' : s'.heap.objs.size ≤ T := bT
    omega
  have lt' : ∀ b o, s'.heap.get? b = some o → b < s'.heap.objs.size := fun b o z => Heap.lt_size z
  have neT' : ∀ b o, s'.heap.get? b = some o → b ≠ T := fun b o z => Nat.ne_of_lt (Nat.lt_of_lt_of_le (lt' b o z) bT)
  have fr3 : h3.FunFrames base (envOfC qual scope s₀.heap.objs.size f cd :: outer) := frames_keep J.stack fun b hb ob hob => by
    obtain ⟨_, ob', hob', hnf⟩ := J.stack.mem hb
    have hob2 : s'.heap.get? b = some ob := hob
    have hob3 : s'.heap.get? b = some ob' := hob'
    have ee : ob' = ob := Option.some.inj (hob3.symm.trans hob2)
    subst ee
    obtain ⟨oe, vs, oT, ts, he, _, _, hd, _, _, hT, hdT, _⟩ := F0
    have n1 : b ≠ e := fun z => by
      rw [z, he] at hob2
      cases hob2
      exact hnf vs hd
    have n2 : b ≠ T0 := fun z => by
      rw [z, hT] at hob2
      cases hob2
      exact hnf ts hdT
    have n3 : b ≠ s.heap.objs.size := fun z => hCf (z ▸ hb)
    obtain ⟨sl, q1⟩ := k2 b ob' n1 n2 hob2
    exact ⟨_, kp b _ (neT' b _ hob2) ((sb.2 b n3).trans q1), rfl⟩
  show wpAny _ _ (leaving _ _) _ _ _
  unfold leaving
  refine wpAny_bind (note_any (s := { s' with heap := h3 }) (base := base) (L := s₀.heap.objs.size) J.ok.frames fr3 rfl F3 fun h4 T4 k4 k5 bT4 F4 => ?_)
  refine flight_x (s := { s' with heap := h4 }) F4 fun h5 k6 F5 => ?_
  have ge4 : s'.heap.objs.size ≤ T4 := by
    rcases bT4 with z | z
    · rw [z]; exact bT
    · exact Nat.le_trans sz3 z
  have neT4 : ∀ b o, s'.heap.get? b = some o → b ≠ T4 := fun b o z => Nat.ne_of_lt (Nat.lt_of_lt_of_le (lt' b o z) ge4)
  have s0T : s₀.heap.objs.size ≤ T4 := Nat.le_trans J.sz ge4
  obtain ⟨u, hk⟩ := left_ok2 (h' := h5) J rfl [e, T0, s.heap.objs.size] (fun b hb => by
      rcases List.mem_cons.mp hb with z | hb
      · subst z
        exact ⟨old b hne, hHe⟩
      rcases List.mem_cons.mp hb with z | hb
      · subst z
        exact ⟨old b hnT, hHT⟩
      · have z : b = s.heap.objs.size := by simpa using hb
        subst z
        exact ⟨Heap.get?_none_of_le I3.sz, I'.free⟩)
    (fun b o b1 b2 z => by
      have n1 : b ≠ e := fun y => b1 (by simp [y])
      have n2 : b ≠ T0 := fun y => b1 (by simp [y])
      have n3 : b ≠ s.heap.objs.size := fun y => b1 (by simp [y])
      exact k6 b o (neT4 b o z) (k4 b o n1 (neT' b o z) b2 (kp b o (neT' b o z) ((sb.2 b n3).trans (k1 b o n1 n2 b2 z)))))
    (fun b o b1 z => by
      have n1 : b ≠ e := fun y => b1 (by simp [y])
      have n2 : b ≠ T0 := fun y => b1 (by simp [y])
      have n3 : b ≠ s.heap.objs.size := fun y => b1 (by simp [y])
      obtain ⟨sl, q1⟩ := k2 b o n1 n2 z
      obtain ⟨sl2, q2⟩ := k5 b _ n1 (neT' b o z) (kp b _ (neT' b o z) ((sb.2 b n3).trans q1))
      exact ⟨sl2, k6 b _ (neT4 b o z) q2⟩)
  exact ⟨e, T4, cls, dct, H', rfl, J.os, J.bare, u, hk, F5, old e hne, Heap.get?_none_of_le s0T, hHe, hok.fresh ge4, q⟩
end
end L2

set_option maxHeartbeats 1000000
namespace L2
open PySem PySem.Spec PyProof.Rows
/-! ### comprehensions that capture nothing; rules whose K is told -/
section
variable {X : Cx} {K : PySem.W.Frag} {a : Expr} {ta : TE}
theorem blk0 {scope : Scope} {own : List Str} (kind : scope.kind = .function) (h : (scope.names.all fun y => decide (y.2 ≠ .cell) && (decide (y.2 ≠ .free) && decide (y.2 = .local → scope.names.lookup y.1 = some .local))) = true) : BlkScope X scope own [] [] := by
  have g : ∀ y ∈ scope.names, y.2 ≠ .cell ∧ y.2 ≠ .free ∧ (y.2 = .local → scope.names.lookup y.1 = some .local) := fun y hy => by
    have := List.all_eq_true.mp h y hy
    rw [Bool.and_eq_true, Bool.and_eq_true] at this
    exact ⟨of_decide_eq_true this.1, of_decide_eq_true this.2.1, of_decide_eq_true this.2.2⟩
  exact ⟨kind, fun y hy => (g y hy).1, fun y hy => (g y hy).2.2, fun y hy e => absurd e (g y hy).2.1, rfl, fun y hy => by simp at hy⟩
theorem nd1 (x : Str) : [x].Nodup := by simp
theorem ix_listK (h : X.K = K) : IxR X (rIxL K) := by subst h; exact ix_list
end
end L2
namespace Car
open PySem L2
noncomputable def top (i : Nat) : Stmt := PySem.Challenge.pw_carvebed_k07_faults_together.main.body.getD i (.Pass ⟨0, 0, 0, 0⟩)
theorem same_upd {H : Hp} {p : Addr} (h : H p = none) (o : HO) : Same H (upd H p o) := fun b u q => by rw [upd_ne (ne_of_none q h)]; exact q
section
variable {K : PySem.W.Frag} {H : Hp}
end
theorem same_in {H0 H : Hp} {q : Addr} {o : HO} (s : Same H0 H) (h : H0 q = none) : Same H0 (upd H q o) := fun b u e => by
  rw [upd_ne (ne_of_none e h)]
  exact s b u e
theorem line3 {n c : Nat} (h : n ≤ c) (h2 : c ≤ 2000) : n < sizeLine := Nat.lt_of_le_of_lt (Nat.le_trans h h2) (by decide)
noncomputable def Wd (n : Nat) (Pv : Nat → St → List V → Hp → Prop) (i m : Nat) (σ : St) (acc : List V) (H : Hp) : Prop := m = n - i ∧ i ≤ n ∧ Pv i σ acc H
theorem wd_next {n : Nat} {Pv : Nat → St → List V → Hp → Prop} {i : Nat} {σ : St} {acc : List V} {H : Hp} (h : i < n) (p : Pv (i + 1) σ acc H) : ∃ m', m' < n - i ∧ Wd n Pv (i + 1) m' σ acc H := ⟨n - (i + 1), by omega, rfl, h, p⟩
theorem lc_ask {K : PySem.W.Frag} {a : Addr} {xs : List V} {i : Nat} {H : Hp} {A : Prop} {B : V → Hp → Prop} (q : SqL K H a xs) (hi : i ≤ xs.length) (hs : ∀ x, xs[i]? = some x → i < xs.length → B x H) (hd : i = xs.length → A) :
    ((Itl K a).stop i H ∧ A) ∨ ((Itl K a).go i H ∧ ∀ x H', (Itl K a).yld i H x H' → B x H') := by
  by_cases hlt : i < xs.length
  · refine .inr ⟨⟨xs, xs[i], q, by simp [hlt]⟩, fun x H' y => ?_⟩
    obtain ⟨e, y⟩ := y
    subst e
    exact hs x (y xs q) hlt
  · exact .inl ⟨⟨xs, q, by omega⟩, hd (by omega)⟩
theorem wd_0 {n : Nat} {Pv : Nat → St → List V → Hp → Prop} {σ : St} {acc : List V} {H : Hp} (h : Pv 0 σ acc H) : ∃ m, Wd n Pv 0 m σ acc H := ⟨n, by simp, Nat.zero_le _, h⟩
end Car
namespace L2
open PySem PySem.Spec PyProof.Rows
/-- a statement and what must hold behind it, whatever way it went -/
noncomputable def tMid (t u : TS) : TS := fun D σ H => ∃ N : St → Hp → Prop, t { D with nx := N } σ H ∧ ∀ σ' H', N σ' H' → u D σ' H'
theorem pss_mid {X : Cx} {st : Stmt} {rest : List Stmt} {t u : TS} (h1 : PS X st t) (h2 : PSs X rest u) : PSs X (st :: rest) (tMid t u) := by
  intro pins s σ H D I ⟨N, h, hN⟩
  refine wpAny_execs_cons (thn (h1 pins s σ H { D with nx := N } I h) fun f s1 q => ?_)
  cases f with
  | next =>
    obtain ⟨σ', H', I', q⟩ := q
    exact h2 pins s1 σ' H' D I' (hN σ' H' q)
  | ret v => exact q
  | brk => exact q
  | cont => exact q
theorem same_drop {H H' : Hp} {d : Addr} : Same (drop H d) (drop H' d) ↔ ∀ b o, b ≠ d → H b = some o → H' b = some o := by
  constructor
  · intro s b o hb e
    have := s b o (by rw [drop_ne hb]; exact e)
    rw [drop_ne hb] at this
    exact this
  · intro h b o e
    by_cases hb : b = d
    · rw [hb, drop_same] at e
      cases e
    · rw [drop_ne hb] at e ⊢
      exact h b o hb e
theorem drop_upd {H : Hp} {d p : Addr} {o : HO} (h : p ≠ d) : drop (upd H p o) d = upd (drop H d) p o := by
  funext b
  by_cases h1 : b = d
  · subst h1
    rw [drop_same, upd_ne (Ne.symm h), drop_same]
  · rw [drop_ne h1]
    by_cases h2 : b = p
    · subst h2
      rw [upd_same, upd_same]
    · rw [upd_ne h2, upd_ne h2, drop_ne h1]
end L2
namespace L2
open PySem PySem.Spec PyProof.Rows
theorem drop_le {H : Hp} {d : Addr} : Same (drop H d) H := fun b o e => by
  by_cases hb : b = d
  · rw [hb, drop_same] at e; cases e
  · rw [drop_ne hb] at e; exact e
end L2
namespace Car
open PySem L2
theorem bt_isin : bootBuiltins "isinstance" = some (.builtin "isinstance") := by decide +kernel
theorem bt_int : bootBuiltins "int" = some (.type "int") := by decide +kernel
structure LawT (mg : Str → Option Value) : Prop where
  len : mg "len" = none
  max : mg "max" = none
  min : mg "min" = none
  range : mg "range" = none
  isin : mg "isinstance" = none
  abs : mg "abs" = none
  tuple : mg "tuple" = none
  list : mg "list" = none
  bool : mg "bool" = none
  int : mg "int" = none
theorem at_mem {xs : List V} {i : Int} (h0 : 0 ≤ i) (h : i < (xs.length : Int)) : ∃ v, atI xs i = some v ∧ v ∈ xs := by
  have hlt : i.toNat < xs.length := by omega
  refine ⟨xs[i.toNat], ?_, List.getElem_mem hlt⟩
  have := atI_nat (List.getElem?_eq_getElem hlt)
  rw [show ((i.toNat : Nat) : Int) = i by omega] at this
  exact this
theorem mod_lt (n : Int) {m : Int} (h : 0 < m) : 0 ≤ n % m ∧ n % m < m := ⟨Int.emod_nonneg _ (by omega), Int.emod_lt_of_pos _ h⟩
theorem _root_.L2.Same.drop {H H' : Hp} (s : Same H H') (d : Addr) : Same (L2.drop H d) (L2.drop H' d) := same_drop.mpr fun b o _ e => s b o e
section
variable {P : Program} {w : World} {K : PySem.W.Frag} {mg : Str → Option Value} {base : Heap} {f : Addr} {fd' : FuncData}
end
/-! ### data that is equal to itself -/
mutual
theorem eqv_self : ∀ d : PyData, PyData.canLay0 d = true → PyData.eqv d d = true
  | .none, _ => by rw [PyData.eqv]
  | .bool b, _ => by rw [PyData.eqv]; simp
  | .int i, _ => by rw [PyData.eqv]; simp
  | .str x, _ => by rw [PyData.eqv]; simp
  | .list xs, h => by rw [PyData.canLay0] at h; rw [PyData.eqv]; exact eqvAll_self xs h
  | .tuple xs, h => by rw [PyData.canLay0] at h; rw [PyData.eqv]; exact eqvAll_self xs h
  | .dict _, h => by rw [PyData.canLay0] at h; cases h
theorem eqvAll_self : ∀ xs : List PyData, PyData.canLayAll0 xs = true → PyData.eqvAll xs xs = true
  | [], _ => by rw [PyData.eqvAll]
  | x :: r, h => by
    rw [PyData.canLayAll0, Bool.and_eq_true] at h
    rw [PyData.eqvAll, eqv_self x h.1, eqvAll_self r h.2]
    rfl
end
theorem le1 : 1 ≤ sizeLine := by decide
theorem le2 : 2 ≤ sizeLine := by decide
theorem le3 : 3 ≤ sizeLine := by decide
section
variable {P : Program} {w : World} {K : PySem.W.Frag} {mg : Str → Option Value} {base : Heap} {f : Addr} {fd' : FuncData}
theorem blkC {X : Cx} {scope : Scope} {own capn : List Str} {capI : List Nat} (sc : Scope) (hsc : X.env.scope = sc) (kind : scope.kind = .function) (h : (scope.names.all fun y => decide (y.2 ≠ .cell) && (decide (y.2 = .local → scope.names.lookup y.1 = some .local) && decide (y.2 = .free → sc.names.lookup y.1 = some .cell))) = true) (caps : capI.map (fun i => X.N[i]?) = capn.map some)
    (capc : ∀ y ∈ capn, X.env.scope.names.lookup y = some .cell ∧ (relabel scope X.env).names.lookup y = some .cell) : BlkScope X scope own capn capI := by
  have g : ∀ y ∈ scope.names, y.2 ≠ .cell ∧ (y.2 = .local → scope.names.lookup y.1 = some .local) ∧ (y.2 = .free → sc.names.lookup y.1 = some .cell) := fun y hy => by
    have := List.all_eq_true.mp h y hy
    rw [Bool.and_eq_true, Bool.and_eq_true] at this
    exact ⟨of_decide_eq_true this.1, of_decide_eq_true this.2.1, of_decide_eq_true this.2.2⟩
  exact ⟨kind, fun y hy => (g y hy).1, fun y hy => (g y hy).2.1, fun y hy e => by rw [hsc]; exact (g y hy).2.2 e, caps, capc⟩
end
end Car
namespace L2
open PySem PySem.Spec PyProof.Rows
theorem drop_upd_same {H : Hp} {d : Addr} {o : HO} : drop (upd H d o) d = drop H d := by
  funext b
  by_cases h : b = d
  · rw [h, drop_same, drop_same]
  · rw [drop_ne h, drop_ne h, upd_ne h]
end L2
namespace L2
open PySem PySem.Spec PyProof.Rows
section
variable {X : Cx} {pos : Pos}
/-- a, b, .. = a list of that length -/
noncomputable def gLst (K : PySem.W.Frag) (n : Nat) (t : TGs) : TG := fun v σ H Q => ∃ a xs, v = .ref a ∧ SqL K H a xs ∧ xs.length = n ∧ t xs σ H Q
theorem pg_lst {es : List Expr} {k : Nat} {t : TGs} {n : Nat} (hc : X.calm = true) (h : PGs X es t)
    (hn : (assignEach es X.env).length = n := by rfl) (hst : (assignEach es X.env).findIdx? (·.1) = none := by rfl) : PG X (.Tuple es k pos) (gLst X.K n t) := by
  intro pins s σ H v u Q I r hw
  obtain ⟨a, xs, e1, hq, hl, hw⟩ := hw
  subst e1
  cases r
  obtain ⟨its, rv, ⟨o, m, e, c, c2, d⟩, hz⟩ := I.list hq
  have ht : s.heap.IsList a its.toArray := ⟨o, e, c, m, d⟩
  rw [assign_Tuple]
  refine wpAny_bind (wpAny_standAt ?_)
  unfold unpack
  rw [show (assignEach es X.env).length = its.toArray.size by simp [hn, ← hl, rv.length], hst]
  refine wpAny_bind (wpAny_holding (PySem.W.kun_itemsOf (I.ok.hd hc) ht fun h' hx => ?_))
  have I1 : Inv X pins σ H { s with heap := h' } := I.kept (t' := s.toks) fun b o e => hx b o (Nat.ne_of_lt (Heap.lt_size e)) e
  exact h pins _ σ H xs _ Q I1 (by simpa using rv) hw
end
end L2

namespace Car
open PySem PySem.W PySem.Calls PyProof.Rows L2
/-! ### the top's run in one go, its heap as a tree -/
noncomputable def goT (tbl : String → Option Builtin) (pr : Program) (wd : World) (lo : Nat) (an : Option Value) : Nat → SharedT → Thread → Option SharedT
  | 0, _, _ => none
  | fuel + 1, sh, th => if through th then some sh else
    if stepOk lo an th then (stepT (denote tbl) pr wd sh th).bind fun x => goT tbl pr wd lo an fuel x.1 x.2 else none
theorem goT_run {tbl : String → Option Builtin} {pr : Program} {wd : World} {lo : Nat} {an : Option Value} (fuel : Nat) : ∀ (sh out : SharedT) (th : Thread), goT tbl pr wd lo an fuel sh th = some out → topRun tbl pr wd lo an fuel sh.abs th = some out.abs := by
  induction fuel with
  | zero => intro sh out th h; exact absurd h (by simp [goT])
  | succ k ih =>
    intro sh out th h
    unfold goT at h
    unfold topRun
    by_cases a : through th = true
    · rw [if_pos a] at h; rw [a]; cases h; rfl
    · rw [if_neg a] at h
      rw [Bool.not_eq_true] at a
      rw [a]
      by_cases b : stepOk lo an th = true
      · rw [if_pos b] at h
        rw [b]
        obtain ⟨x, hx, hr⟩ := Option.bind_eq_some_iff.mp h
        rw [stepT_spec (s' := x.1) (t' := x.2) hx]
        exact ih _ _ _ hr
      · rw [if_neg b] at h; cases h
noncomputable def plant : List Obj → Nat → BT → BT
  | [], _, tr => tr
  | ob :: more, i, tr => plant more (i + 1) (tr.ins i ob)
noncomputable def boot0 (P : Params) (os : OsState) : SharedT := ⟨plant (boot_heap P).objs.toList 0 .nil, 11, (boot_heap P).life, #[], boot_drawn, boot_toks, os⟩
theorem boot0_abs (P : Params) (os : OsState) : (boot0 P os).abs = ⟨boot_heap P, #[], boot_drawn, boot_toks, os⟩ := by kernel_rfl
noncomputable def sight {α : Type} (pr q : Program) (loose : List Str) (Yf : Shared → α) (M : Nat) (wd : World) (os : OsState) :=
  (goT treeTable pr wd 11 (some (.ref 6)) M (boot0 wd.params os) (topStub pr)).map fun x =>
    ((staticsOk (importedModules pr.main.body) (boot_heap wd.params) x.abs.heap && namesBound pr x.abs.heap && gensDone x.abs && laidKept (boot_heap wd.params) x.abs.heap),
      openSeen q loose (importedModules pr.main.body) (fun s => xlAt q [] s && recOk [] s) true x.abs, Yf x.abs)
theorem left_by {α : Type} {pr q : Program} {loose : List Str} {Yf : Shared → α} {Ya : World → α} {N M : Nat} (le : Nat.ble M N = true)
    (hop : opening pr = plainProg pr.main.scope.names) (hN : Nat.ble 600 N = true) (hf : ∀ s, fenceModules? pr s = some s)
    (hs : ∀ wd os, sight pr q loose Yf M wd os = some (true, openGood q loose, Ya wd)) : LeftO pr q loose (fun s => xlAt q [] s && recOk [] s) Yf Ya N true := fun wd => by
  obtain ⟨⟨hp, gs, d, k, os⟩, e, e'⟩ := Option.map_eq_some_iff.mp (boot_open hop hN hf wd)
  simp only [Prod.mk.injEq] at e'
  obtain ⟨rfl, rfl, rfl, rfl⟩ := e'
  obtain ⟨x, hx, hv⟩ := Option.map_eq_some_iff.mp (hs wd os)
  simp only [Prod.mk.injEq] at hv
  obtain ⟨h1, h2, h3⟩ := hv
  have r := topRun_mono (N - M) _ _ _ _ (goT_run _ _ _ _ hx)
  have hm : M + (N - M) = N := Nat.add_sub_cancel' (Nat.le_of_ble_eq_true le)
  rw [hm, boot0_abs] at r
  have z1 : ((boot_heap wd.params).isNs mainGlobals && (#[] : Array GenState).size == 0) = true := by kernel_rfl
  have z2 : (boot_heap wd.params).objs.size = 11 := by kernel_rfl
  have z3 : (boot_heap wd.params).nsMap mainGlobals "__annotations__" = some (.ref 6) := by kernel_rfl
  have t : topFrom treeTable pr wd N ⟨boot_heap wd.params, #[], boot_drawn, boot_toks, os⟩ = some x.abs := by
    unfold topFrom
    dsimp only
    rw [z1, z2, z3]
    dsimp only
    rw [show topRun treeTable pr wd 11 (some (.ref 6)) N ⟨boot_heap wd.params, #[], boot_drawn, boot_toks, os⟩ (topStub pr) = some x.abs from r]
    dsimp only [Option.bind]
    rw [h1]
  unfold openEnds
  rw [e]
  dsimp only [Option.bind]
  rw [show topFrom treeTable pr wd N ⟨boot_heap wd.params, { toList := [] }, boot_drawn, boot_toks, os⟩ = some x.abs from t]
  dsimp only [Option.map]
  rw [h2, h3]
noncomputable def dS (P : Params) (x : Str) (t : Nat) (v : Value) : DictEntry := ⟨PyData.keyHash P x, .str x t, v⟩
noncomputable def fF (x q : Str) (s : Stmt) (dv kv doc pm : Value) (an : Option Addr) (cd ct : Value) : FuncData := fnOf x q (defArgs s) (defBody s) (defScope s) dv kv doc pm an cd ct
noncomputable def cO (x q : Str) (t l a r1 r2 : Nat) (u v z : Value) (r3 g : Nat) : Obj := ⟨.type "code", none, .fields #[.str x t, .str q (t + 1), .str "/claim/cut.py" (t + 2), .int l 0, .int a 0, .int 0 0, .int 0 0, .int 3 0, .ref r1, .bool true, .int 181 0, .ref r2, u, v, z, .ref r3, .int g 0, .int l 0, .str "/claim/cut.py" (g + 1)], #[]⟩
noncomputable def o2 : Obj := ⟨.none, none, (.dict #[] 0), #[]⟩
noncomputable def o3 (P : Params) : Obj := ⟨.type "dict", none, (.dict #[dS P "__name__" 165 (.str "law_carvebed_k07_faults_together" 797), dS P "__doc__" 166 .none, dS P "__package__" 167 .none, dS P "__loader__" 168 (.builtin "__main__.__loader__#opaque"), dS P "__spec__" 169 .none, dS P "__annotations__" 170 (.ref 6), dS P "__builtins__" 171 (.ref 4), dS P "__file__" 173 (.str "/claim/cut.py" 172), dS P "__cached__" 174 .none, dS P "CarveError" 206 (.ref 24), dS P "TooLong" 222 (.ref 37), dS P "NoRow" 238 (.ref 49), dS P "NoPlace" 254 (.ref 61), dS P "TooDeep" 270 (.ref 73), dS P "Twice" 286 (.ref 85), dS P "Open" 302 (.ref 97), dS P "NoSub" 318 (.ref 109), dS P "NoForm" 334 (.ref 121), dS P "NoBed" 350 (.ref 133), dS P "NoMeasure" 366 (.ref 145), dS P "NoCell" 382 (.ref 157), dS P "NoCutter" 398 (.ref 169), dS P "SMALL_LETTERS" 402 (.str "abcdefghijklmnopqrstuvwxyz" 401), dS P "FIGURES" 404 (.str "0123456789" 403), dS P "JOINTS" 406 (.str "+-*()" 405), dS P "KEPT_WORDS" 421 (.ref 172), dS P "MOST_LETTERS" 423 (.int 8 422), dS P "MOST_FIGURES" 425 (.int 6 424), dS P "MOST_SIGNS" 427 (.int 60 426), dS P "MOST_BRACKETS" 429 (.int 5 428), dS P "is_written_in" 435 (.ref 177), dS P "is_name" 442 (.ref 184), dS P "is_number" 449 (.ref 191), dS P "Scan" 537 (.ref 257), dS P "expression" 546 (.ref 268), dS P "AXES" 552 (.ref 269), dS P "COMPARISONS" 555 (.ref 270), dS P "MOST_NAMES" 557 (.int 4 556), dS P "look_at_length" 566 (.ref 277), dS P "name_of" 573 (.ref 284), dS P "hold_row" 580 (.ref 291), dS P "move_row" 588 (.ref 298), dS P "let_row" 595 (.ref 305), dS P "call_row" 601 (.ref 310), dS P "times_row" 608 (.ref 317), dS P "if_row" 615 (.ref 324), dS P "bare_row" 622 (.ref 331), dS P "sub_row" 628 (.ref 336), dS P "FORMS" 649 (.ref 337), dS P "row_of" 657 (.ref 344), dS P "MOST_ROWS" 661 (.int 120 660), dS P "MOST_BODIES" 663 (.int 6 662), dS P "Draft" 786 (.ref 438), dS P "read" 796 (.ref 449), dS P "_law_cell_at" 806 (.ref 456), dS P "_law_stir" 815 (.ref 463), dS P "_law_bad" 823 (.ref 470), dS P "_law_any_row" 834 (.ref 477), dS P "_law_judged" 840 (.ref 482), dS P "_law_refusal" 849 (.ref 489), dS P "law" 855 (.ref 494)] 61), #[]⟩
noncomputable def o23 (P : Params) : Obj := ⟨.type "dict", none, (.dict #[dS P "__module__" 196 (.str "carvebed.errors" 187), dS P "__firstlineno__" 200 (.int 2 199), dS P "__static_attributes__" 201 (.ref 22), dS P "__weakref__" 203 (.ref 25), dS P "__doc__" 204 .none] 3), #[]⟩
noncomputable def o24 : Obj := ⟨.type "type", none, (.cls { name := "CarveError", bases := [.type "ValueError"], mro := [.ref 24, .type "ValueError", .type "Exception", .type "BaseException", .type "object"], ns := 23, qualname := "CarveError", hasDict := true, slotNames := [], subclasses := [.ref 37, .ref 49, .ref 61, .ref 73, .ref 85, .ref 97, .ref 109, .ref 121, .ref 133, .ref 145, .ref 157, .ref 169], abstract := false, collection := none, hasDel := false }), #[some (.ref 15), none, some (.str "CarveError" 189), some (.str "CarveError" 197), some (.builtin "ValueError.__new__"), some (.bool true)]⟩
noncomputable def o25 : Obj := ⟨.type "getset_descriptor", none, (.fields #[.str "__weakref__" 202, .ref 24, .builtin "ExceptionGroup.__weakref__", .none]), #[]⟩
noncomputable def o36 (P : Params) : Obj := ⟨.type "dict", none, (.dict #[dS P "__module__" 214 (.str "carvebed.errors" 187), dS P "__firstlineno__" 218 (.int 4 217), dS P "__static_attributes__" 219 (.ref 35), dS P "__doc__" 220 .none] 2), #[]⟩
noncomputable def o37 : Obj := ⟨.type "type", none, (.cls { name := "TooLong", bases := [.ref 24], mro := [.ref 37, .ref 24, .type "ValueError", .type "Exception", .type "BaseException", .type "object"], ns := 36, qualname := "TooLong", hasDict := true, slotNames := [], subclasses := [], abstract := false, collection := none, hasDel := false }), #[some (.ref 28), none, some (.str "TooLong" 207), some (.str "TooLong" 215), some (.builtin "ValueError.__new__"), some (.bool true)]⟩
noncomputable def o48 (P : Params) : Obj := ⟨.type "dict", none, (.dict #[dS P "__module__" 230 (.str "carvebed.errors" 187), dS P "__firstlineno__" 234 (.int 6 233), dS P "__static_attributes__" 235 (.ref 47), dS P "__doc__" 236 .none] 2), #[]⟩
noncomputable def o49 : Obj := ⟨.type "type", none, (.cls { name := "NoRow", bases := [.ref 24], mro := [.ref 49, .ref 24, .type "ValueError", .type "Exception", .type "BaseException", .type "object"], ns := 48, qualname := "NoRow", hasDict := true, slotNames := [], subclasses := [], abstract := false, collection := none, hasDel := false }), #[some (.ref 40), none, some (.str "NoRow" 223), some (.str "NoRow" 231), some (.builtin "ValueError.__new__"), some (.bool true)]⟩
noncomputable def o60 (P : Params) : Obj := ⟨.type "dict", none, (.dict #[dS P "__module__" 246 (.str "carvebed.errors" 187), dS P "__firstlineno__" 250 (.int 8 249), dS P "__static_attributes__" 251 (.ref 59), dS P "__doc__" 252 .none] 2), #[]⟩
noncomputable def o61 : Obj := ⟨.type "type", none, (.cls { name := "NoPlace", bases := [.ref 24], mro := [.ref 61, .ref 24, .type "ValueError", .type "Exception", .type "BaseException", .type "object"], ns := 60, qualname := "NoPlace", hasDict := true, slotNames := [], subclasses := [], abstract := false, collection := none, hasDel := false }), #[some (.ref 52), none, some (.str "NoPlace" 239), some (.str "NoPlace" 247), some (.builtin "ValueError.__new__"), some (.bool true)]⟩
noncomputable def o72 (P : Params) : Obj := ⟨.type "dict", none, (.dict #[dS P "__module__" 262 (.str "carvebed.errors" 187), dS P "__firstlineno__" 266 (.int 10 265), dS P "__static_attributes__" 267 (.ref 71), dS P "__doc__" 268 .none] 2), #[]⟩
noncomputable def o73 : Obj := ⟨.type "type", none, (.cls { name := "TooDeep", bases := [.ref 24], mro := [.ref 73, .ref 24, .type "ValueError", .type "Exception", .type "BaseException", .type "object"], ns := 72, qualname := "TooDeep", hasDict := true, slotNames := [], subclasses := [], abstract := false, collection := none, hasDel := false }), #[some (.ref 64), none, some (.str "TooDeep" 255), some (.str "TooDeep" 263), some (.builtin "ValueError.__new__"), some (.bool true)]⟩
noncomputable def o84 (P : Params) : Obj := ⟨.type "dict", none, (.dict #[dS P "__module__" 278 (.str "carvebed.errors" 187), dS P "__firstlineno__" 282 (.int 12 281), dS P "__static_attributes__" 283 (.ref 83), dS P "__doc__" 284 .none] 2), #[]⟩
noncomputable def o85 : Obj := ⟨.type "type", none, (.cls { name := "Twice", bases := [.ref 24], mro := [.ref 85, .ref 24, .type "ValueError", .type "Exception", .type "BaseException", .type "object"], ns := 84, qualname := "Twice", hasDict := true, slotNames := [], subclasses := [], abstract := false, collection := none, hasDel := false }), #[some (.ref 76), none, some (.str "Twice" 271), some (.str "Twice" 279), some (.builtin "ValueError.__new__"), some (.bool true)]⟩
noncomputable def o96 (P : Params) : Obj := ⟨.type "dict", none, (.dict #[dS P "__module__" 294 (.str "carvebed.errors" 187), dS P "__firstlineno__" 298 (.int 14 297), dS P "__static_attributes__" 299 (.ref 95), dS P "__doc__" 300 .none] 2), #[]⟩
noncomputable def o97 : Obj := ⟨.type "type", none, (.cls { name := "Open", bases := [.ref 24], mro := [.ref 97, .ref 24, .type "ValueError", .type "Exception", .type "BaseException", .type "object"], ns := 96, qualname := "Open", hasDict := true, slotNames := [], subclasses := [], abstract := false, collection := none, hasDel := false }), #[some (.ref 88), none, some (.str "Open" 287), some (.str "Open" 295), some (.builtin "ValueError.__new__"), some (.bool true)]⟩
noncomputable def o108 (P : Params) : Obj := ⟨.type "dict", none, (.dict #[dS P "__module__" 310 (.str "carvebed.errors" 187), dS P "__firstlineno__" 314 (.int 16 313), dS P "__static_attributes__" 315 (.ref 107), dS P "__doc__" 316 .none] 2), #[]⟩
noncomputable def o109 : Obj := ⟨.type "type", none, (.cls { name := "NoSub", bases := [.ref 24], mro := [.ref 109, .ref 24, .type "ValueError", .type "Exception", .type "BaseException", .type "object"], ns := 108, qualname := "NoSub", hasDict := true, slotNames := [], subclasses := [], abstract := false, collection := none, hasDel := false }), #[some (.ref 100), none, some (.str "NoSub" 303), some (.str "NoSub" 311), some (.builtin "ValueError.__new__"), some (.bool true)]⟩
noncomputable def o120 (P : Params) : Obj := ⟨.type "dict", none, (.dict #[dS P "__module__" 326 (.str "carvebed.errors" 187), dS P "__firstlineno__" 330 (.int 18 329), dS P "__static_attributes__" 331 (.ref 119), dS P "__doc__" 332 .none] 2), #[]⟩
noncomputable def o121 : Obj := ⟨.type "type", none, (.cls { name := "NoForm", bases := [.ref 24], mro := [.ref 121, .ref 24, .type "ValueError", .type "Exception", .type "BaseException", .type "object"], ns := 120, qualname := "NoForm", hasDict := true, slotNames := [], subclasses := [], abstract := false, collection := none, hasDel := false }), #[some (.ref 112), none, some (.str "NoForm" 319), some (.str "NoForm" 327), some (.builtin "ValueError.__new__"), some (.bool true)]⟩
noncomputable def o132 (P : Params) : Obj := ⟨.type "dict", none, (.dict #[dS P "__module__" 342 (.str "carvebed.errors" 187), dS P "__firstlineno__" 346 (.int 20 345), dS P "__static_attributes__" 347 (.ref 131), dS P "__doc__" 348 .none] 2), #[]⟩
noncomputable def o133 : Obj := ⟨.type "type", none, (.cls { name := "NoBed", bases := [.ref 24], mro := [.ref 133, .ref 24, .type "ValueError", .type "Exception", .type "BaseException", .type "object"], ns := 132, qualname := "NoBed", hasDict := true, slotNames := [], subclasses := [], abstract := false, collection := none, hasDel := false }), #[some (.ref 124), none, some (.str "NoBed" 335), some (.str "NoBed" 343), some (.builtin "ValueError.__new__"), some (.bool true)]⟩
noncomputable def o144 (P : Params) : Obj := ⟨.type "dict", none, (.dict #[dS P "__module__" 358 (.str "carvebed.errors" 187), dS P "__firstlineno__" 362 (.int 22 361), dS P "__static_attributes__" 363 (.ref 143), dS P "__doc__" 364 .none] 2), #[]⟩
noncomputable def o145 : Obj := ⟨.type "type", none, (.cls { name := "NoMeasure", bases := [.ref 24], mro := [.ref 145, .ref 24, .type "ValueError", .type "Exception", .type "BaseException", .type "object"], ns := 144, qualname := "NoMeasure", hasDict := true, slotNames := [], subclasses := [], abstract := false, collection := none, hasDel := false }), #[some (.ref 136), none, some (.str "NoMeasure" 351), some (.str "NoMeasure" 359), some (.builtin "ValueError.__new__"), some (.bool true)]⟩
noncomputable def o156 (P : Params) : Obj := ⟨.type "dict", none, (.dict #[dS P "__module__" 374 (.str "carvebed.errors" 187), dS P "__firstlineno__" 378 (.int 24 377), dS P "__static_attributes__" 379 (.ref 155), dS P "__doc__" 380 .none] 2), #[]⟩
noncomputable def o157 : Obj := ⟨.type "type", none, (.cls { name := "NoCell", bases := [.ref 24], mro := [.ref 157, .ref 24, .type "ValueError", .type "Exception", .type "BaseException", .type "object"], ns := 156, qualname := "NoCell", hasDict := true, slotNames := [], subclasses := [], abstract := false, collection := none, hasDel := false }), #[some (.ref 148), none, some (.str "NoCell" 367), some (.str "NoCell" 375), some (.builtin "ValueError.__new__"), some (.bool true)]⟩
noncomputable def o168 (P : Params) : Obj := ⟨.type "dict", none, (.dict #[dS P "__module__" 390 (.str "carvebed.errors" 187), dS P "__firstlineno__" 394 (.int 26 393), dS P "__static_attributes__" 395 (.ref 167), dS P "__doc__" 396 .none] 2), #[]⟩
noncomputable def o169 : Obj := ⟨.type "type", none, (.cls { name := "NoCutter", bases := [.ref 24], mro := [.ref 169, .ref 24, .type "ValueError", .type "Exception", .type "BaseException", .type "object"], ns := 168, qualname := "NoCutter", hasDict := true, slotNames := [], subclasses := [], abstract := false, collection := none, hasDel := false }), #[some (.ref 160), none, some (.str "NoCutter" 383), some (.str "NoCutter" 391), some (.builtin "ValueError.__new__"), some (.bool true)]⟩
noncomputable def o172 : Obj := ⟨.type "tuple", none, (.seq #[.str "hold" 407, .str "fast" 408, .str "slow" 409, .str "by" 410, .str "let" 411, .str "times" 412, .str "if" 413, .str "else" 414, .str "end" 415, .str "sub" 416, .str "call" 417, .str "x" 418, .str "y" 419, .str "z" 420] 0), #[]⟩
noncomputable def o176 : Obj := cO "is_written_in" "is_written_in" 430 37 2 173 174 .none .none .none 175 433
noncomputable def o177 : Obj := ⟨.type "function", none, (.func (fF "is_written_in" "is_written_in" (top 23) .none .none .none (.str "carvebed.words" 399) none (.ref 176) .none)), #[]⟩
noncomputable def o183 : Obj := cO "is_name" "is_name" 436 39 1 178 179 .none (.ref 180) (.ref 181) 182 440
noncomputable def o184 : Obj := ⟨.type "function", none, (.func (fF "is_name" "is_name" (top 24) .none .none .none (.str "carvebed.words" 399) none (.ref 183) .none)), #[]⟩
noncomputable def o190 : Obj := cO "is_number" "is_number" 443 41 1 185 186 .none (.ref 187) (.ref 188) 189 447
noncomputable def o191 : Obj := ⟨.type "function", none, (.func (fF "is_number" "is_number" (top 25) .none .none .none (.str "carvebed.words" 399) none (.ref 190) .none)), #[]⟩
noncomputable def o204 : Obj := cO "__init__" "Scan.__init__" 462 47 2 199 200 .none (.ref 201) (.ref 202) 203 467
noncomputable def o205 : Obj := ⟨.type "function", none, (.func (fF "__init__" "Scan.__init__" (inClass (top 26) 0) .none .none .none (.str "carvebed.words" 399) none (.ref 204) .none)), #[]⟩
noncomputable def o211 : Obj := cO "sign_ahead" "Scan.sign_ahead" 470 52 1 206 207 .none (.ref 208) (.ref 209) 210 474
noncomputable def o212 : Obj := ⟨.type "function", none, (.func (fF "sign_ahead" "Scan.sign_ahead" (inClass (top 26) 1) .none .none .none (.str "carvebed.words" 399) none (.ref 211) .none)), #[]⟩
noncomputable def o218 : Obj := cO "take_sign" "Scan.take_sign" 477 55 1 213 214 .none (.ref 215) (.ref 216) 217 482
noncomputable def o219 : Obj := ⟨.type "function", none, (.func (fF "take_sign" "Scan.take_sign" (inClass (top 26) 2) .none .none .none (.str "carvebed.words" 399) none (.ref 218) .none)), #[]⟩
noncomputable def o225 : Obj := cO "take_terms" "Scan.take_terms" 485 60 1 220 221 .none (.ref 222) (.ref 223) 224 491
noncomputable def o226 : Obj := ⟨.type "function", none, (.func (fF "take_terms" "Scan.take_terms" (inClass (top 26) 3) .none .none .none (.str "carvebed.words" 399) none (.ref 225) .none)), #[]⟩
noncomputable def o232 : Obj := cO "take_factors" "Scan.take_factors" 494 67 1 227 228 .none (.ref 229) (.ref 230) 231 500
noncomputable def o233 : Obj := ⟨.type "function", none, (.func (fF "take_factors" "Scan.take_factors" (inClass (top 26) 4) .none .none .none (.str "carvebed.words" 399) none (.ref 232) .none)), #[]⟩
noncomputable def o239 : Obj := cO "take_factor" "Scan.take_factor" 503 74 1 234 235 .none (.ref 236) (.ref 237) 238 508
noncomputable def o240 : Obj := ⟨.type "function", none, (.func (fF "take_factor" "Scan.take_factor" (inClass (top 26) 5) .none .none .none (.str "carvebed.words" 399) none (.ref 239) .none)), #[]⟩
noncomputable def o246 : Obj := cO "take_brackets" "Scan.take_brackets" 511 84 1 241 242 .none (.ref 243) (.ref 244) 245 516
noncomputable def o247 : Obj := ⟨.type "function", none, (.func (fF "take_brackets" "Scan.take_brackets" (inClass (top 26) 6) .none .none .none (.str "carvebed.words" 399) none (.ref 246) .none)), #[]⟩
noncomputable def o253 : Obj := cO "take_piece" "Scan.take_piece" 519 95 1 248 249 .none (.ref 250) (.ref 251) 252 524
noncomputable def o254 : Obj := ⟨.type "function", none, (.func (fF "take_piece" "Scan.take_piece" (inClass (top 26) 7) .none .none .none (.str "carvebed.words" 399) none (.ref 253) .none)), #[]⟩
noncomputable def o256 (P : Params) : Obj := ⟨.type "dict", none, (.dict #[dS P "__module__" 457 (.str "carvebed.words" 399), dS P "__firstlineno__" 461 (.int 45 460), dS P "__init__" 469 (.ref 205), dS P "sign_ahead" 476 (.ref 212), dS P "take_sign" 484 (.ref 219), dS P "take_terms" 493 (.ref 226), dS P "take_factors" 502 (.ref 233), dS P "take_factor" 510 (.ref 240), dS P "take_brackets" 518 (.ref 247), dS P "take_piece" 526 (.ref 254), dS P "__static_attributes__" 530 (.ref 255), dS P "__dict__" 532 (.ref 258), dS P "__weakref__" 534 (.ref 259), dS P "__doc__" 535 .none] 4), #[]⟩
noncomputable def o257 : Obj := ⟨.type "type", none, (.cls { name := "Scan", bases := [.type "object"], mro := [.ref 257, .type "object"], ns := 256, qualname := "Scan", hasDict := true, slotNames := [], subclasses := [], abstract := false, collection := none, hasDel := false }), #[none, none, some (.str "Scan" 450), some (.str "Scan" 458), some (.builtin "object.__new__"), some (.bool true)]⟩
noncomputable def o258 : Obj := ⟨.type "getset_descriptor", none, (.fields #[.str "__dict__" 531, .ref 257, .builtin "function.__dict__", .builtin "function.__dict__#set"]), #[]⟩
noncomputable def o259 : Obj := ⟨.type "getset_descriptor", none, (.fields #[.str "__weakref__" 533, .ref 257, .builtin "ExceptionGroup.__weakref__", .none]), #[]⟩
noncomputable def o267 : Obj := cO "expression" "expression" 538 100 1 262 263 .none (.ref 264) (.ref 265) 266 544
noncomputable def o268 : Obj := ⟨.type "function", none, (.func (fF "expression" "expression" (top 27) .none .none .none (.str "carvebed.words" 399) none (.ref 267) .none)), #[]⟩
noncomputable def o269 : Obj := ⟨.type "tuple", none, (.seq #[.str "x" 549, .str "y" 550, .str "z" 551] 0), #[]⟩
noncomputable def o270 : Obj := ⟨.type "tuple", none, (.seq #[.str "<" 553, .str "=" 554] 0), #[]⟩
noncomputable def o276 : Obj := cO "look_at_length" "look_at_length" 558 112 3 271 272 .none (.ref 273) (.ref 274) 275 564
noncomputable def o277 : Obj := ⟨.type "function", none, (.func (fF "look_at_length" "look_at_length" (top 32) .none .none .none (.str "carvebed.rows" 547) none (.ref 276) .none)), #[]⟩
noncomputable def o283 : Obj := cO "name_of" "name_of" 567 115 1 278 279 .none (.ref 280) (.ref 281) 282 571
noncomputable def o284 : Obj := ⟨.type "function", none, (.func (fF "name_of" "name_of" (top 33) .none .none .none (.str "carvebed.rows" 547) none (.ref 283) .none)), #[]⟩
noncomputable def o290 : Obj := cO "hold_row" "hold_row" 574 119 1 285 286 .none (.ref 287) (.ref 288) 289 578
noncomputable def o291 : Obj := ⟨.type "function", none, (.func (fF "hold_row" "hold_row" (top 34) .none .none .none (.str "carvebed.rows" 547) none (.ref 290) .none)), #[]⟩
noncomputable def o297 : Obj := cO "move_row" "move_row" 581 122 1 292 293 .none (.ref 294) (.ref 295) 296 586
noncomputable def o298 : Obj := ⟨.type "function", none, (.func (fF "move_row" "move_row" (top 35) .none .none .none (.str "carvebed.rows" 547) none (.ref 297) .none)), #[]⟩
noncomputable def o304 : Obj := cO "let_row" "let_row" 589 128 1 299 300 .none (.ref 301) (.ref 302) 303 593
noncomputable def o305 : Obj := ⟨.type "function", none, (.func (fF "let_row" "let_row" (top 36) .none .none .none (.str "carvebed.rows" 547) none (.ref 304) .none)), #[]⟩
noncomputable def o309 : Obj := cO "call_row" "call_row" 596 131 1 306 307 .none .none .none 308 599
noncomputable def o310 : Obj := ⟨.type "function", none, (.func (fF "call_row" "call_row" (top 37) .none .none .none (.str "carvebed.rows" 547) none (.ref 309) .none)), #[]⟩
noncomputable def o316 : Obj := cO "times_row" "times_row" 602 134 1 311 312 .none (.ref 313) (.ref 314) 315 606
noncomputable def o317 : Obj := ⟨.type "function", none, (.func (fF "times_row" "times_row" (top 38) .none .none .none (.str "carvebed.rows" 547) none (.ref 316) .none)), #[]⟩
noncomputable def o323 : Obj := cO "if_row" "if_row" 609 137 1 318 319 .none (.ref 320) (.ref 321) 322 613
noncomputable def o324 : Obj := ⟨.type "function", none, (.func (fF "if_row" "if_row" (top 39) .none .none .none (.str "carvebed.rows" 547) none (.ref 323) .none)), #[]⟩
noncomputable def o330 : Obj := cO "bare_row" "bare_row" 616 142 1 325 326 .none (.ref 327) (.ref 328) 329 620
noncomputable def o331 : Obj := ⟨.type "function", none, (.func (fF "bare_row" "bare_row" (top 40) .none .none .none (.str "carvebed.rows" 547) none (.ref 330) .none)), #[]⟩
noncomputable def o335 : Obj := cO "sub_row" "sub_row" 623 145 1 332 333 .none .none .none 334 626
noncomputable def o336 : Obj := ⟨.type "function", none, (.func (fF "sub_row" "sub_row" (top 41) .none .none .none (.str "carvebed.rows" 547) none (.ref 335) .none)), #[]⟩
noncomputable def o337 (P : Params) : Obj := ⟨.type "dict", none, (.dict #[dS P "hold" 629 (.ref 291), dS P "fast" 630 (.ref 298), dS P "slow" 631 (.ref 298), dS P "let" 632 (.ref 305), dS P "call" 633 (.ref 310), dS P "times" 634 (.ref 317), dS P "if" 635 (.ref 324), dS P "else" 636 (.ref 331), dS P "end" 637 (.ref 331), dS P "sub" 638 (.ref 336)] 10), #[]⟩
noncomputable def o343 : Obj := cO "row_of" "row_of" 650 149 1 338 339 .none (.ref 340) (.ref 341) 342 655
noncomputable def o344 : Obj := ⟨.type "function", none, (.func (fF "row_of" "row_of" (top 43) .none .none .none (.str "carvebed.rows" 547) none (.ref 343) .none)), #[]⟩
noncomputable def o357 : Obj := cO "__init__" "Draft.__init__" 676 159 1 352 353 .none (.ref 354) (.ref 355) 356 680
noncomputable def o358 : Obj := ⟨.type "function", none, (.func (fF "__init__" "Draft.__init__" (inClass (top 47) 0) .none .none .none (.str "carvebed.programs" 658) none (.ref 357) .none)), #[]⟩
noncomputable def o364 : Obj := cO "put" "Draft.put" 683 166 2 359 360 .none (.ref 361) (.ref 362) 363 689
noncomputable def o365 : Obj := ⟨.type "function", none, (.func (fF "put" "Draft.put" (inClass (top 47) 1) .none .none .none (.str "carvebed.programs" 658) none (.ref 364) .none)), #[]⟩
noncomputable def o371 : Obj := cO "innermost" "Draft.innermost" 692 181 1 366 367 .none (.ref 368) (.ref 369) 370 696
noncomputable def o372 : Obj := ⟨.type "function", none, (.func (fF "innermost" "Draft.innermost" (inClass (top 47) 2) .none .none .none (.str "carvebed.programs" 658) none (.ref 371) .none)), #[]⟩
noncomputable def o378 : Obj := cO "put_plain" "Draft.put_plain" 699 186 2 373 374 .none (.ref 375) (.ref 376) 377 704
noncomputable def o379 : Obj := ⟨.type "function", none, (.func (fF "put_plain" "Draft.put_plain" (inClass (top 47) 3) .none .none .none (.str "carvebed.programs" 658) none (.ref 378) .none)), #[]⟩
noncomputable def o385 : Obj := cO "look_at_depth" "Draft.look_at_depth" 707 191 1 380 381 .none (.ref 382) (.ref 383) 384 711
noncomputable def o386 : Obj := ⟨.type "function", none, (.func (fF "look_at_depth" "Draft.look_at_depth" (inClass (top 47) 4) .none .none .none (.str "carvebed.programs" 658) none (.ref 385) .none)), #[]⟩
noncomputable def o392 : Obj := cO "begin_sub" "Draft.begin_sub" 714 195 3 387 388 .none (.ref 389) (.ref 390) 391 721
noncomputable def o393 : Obj := ⟨.type "function", none, (.func (fF "begin_sub" "Draft.begin_sub" (inClass (top 47) 5) .none .none .none (.str "carvebed.programs" 658) none (.ref 392) .none)), #[]⟩
noncomputable def o399 : Obj := cO "begin_times" "Draft.begin_times" 724 205 2 394 395 .none (.ref 396) (.ref 397) 398 730
noncomputable def o400 : Obj := ⟨.type "function", none, (.func (fF "begin_times" "Draft.begin_times" (inClass (top 47) 6) .none .none .none (.str "carvebed.programs" 658) none (.ref 399) .none)), #[]⟩
noncomputable def o406 : Obj := cO "begin_if" "Draft.begin_if" 733 211 2 401 402 .none (.ref 403) (.ref 404) 405 740
noncomputable def o407 : Obj := ⟨.type "function", none, (.func (fF "begin_if" "Draft.begin_if" (inClass (top 47) 7) .none .none .none (.str "carvebed.programs" 658) none (.ref 406) .none)), #[]⟩
noncomputable def o413 : Obj := cO "turn_to_else" "Draft.turn_to_else" 743 218 1 408 409 .none (.ref 410) (.ref 411) 412 748
noncomputable def o414 : Obj := ⟨.type "function", none, (.func (fF "turn_to_else" "Draft.turn_to_else" (inClass (top 47) 8) .none .none .none (.str "carvebed.programs" 658) none (.ref 413) .none)), #[]⟩
noncomputable def o420 : Obj := cO "end_body" "Draft.end_body" 751 224 1 415 416 .none (.ref 417) (.ref 418) 419 755
noncomputable def o421 : Obj := ⟨.type "function", none, (.func (fF "end_body" "Draft.end_body" (inClass (top 47) 9) .none .none .none (.str "carvebed.programs" 658) none (.ref 420) .none)), #[]⟩
noncomputable def o427 : Obj := cO "look_at_end" "Draft.look_at_end" 758 229 1 422 423 .none (.ref 424) (.ref 425) 426 762
noncomputable def o428 : Obj := ⟨.type "function", none, (.func (fF "look_at_end" "Draft.look_at_end" (inClass (top 47) 10) .none .none .none (.str "carvebed.programs" 658) none (.ref 427) .none)), #[]⟩
noncomputable def o434 : Obj := cO "look_at_calls" "Draft.look_at_calls" 765 233 1 429 430 .none (.ref 431) (.ref 432) 433 771
noncomputable def o435 : Obj := ⟨.type "function", none, (.func (fF "look_at_calls" "Draft.look_at_calls" (inClass (top 47) 11) .none .none .none (.str "carvebed.programs" 658) none (.ref 434) .none)), #[]⟩
noncomputable def o437 (P : Params) : Obj := ⟨.type "dict", none, (.dict #[dS P "__module__" 671 (.str "carvebed.programs" 658), dS P "__firstlineno__" 675 (.int 157 674), dS P "__init__" 682 (.ref 358), dS P "put" 691 (.ref 365), dS P "innermost" 698 (.ref 372), dS P "put_plain" 706 (.ref 379), dS P "look_at_depth" 713 (.ref 386), dS P "begin_sub" 723 (.ref 393), dS P "begin_times" 732 (.ref 400), dS P "begin_if" 742 (.ref 407), dS P "turn_to_else" 750 (.ref 414), dS P "end_body" 757 (.ref 421), dS P "look_at_end" 764 (.ref 428), dS P "look_at_calls" 773 (.ref 435), dS P "__static_attributes__" 779 (.ref 436), dS P "__dict__" 781 (.ref 439), dS P "__weakref__" 783 (.ref 440), dS P "__doc__" 784 .none] 4), #[]⟩
noncomputable def o438 : Obj := ⟨.type "type", none, (.cls { name := "Draft", bases := [.type "object"], mro := [.ref 438, .type "object"], ns := 437, qualname := "Draft", hasDict := true, slotNames := [], subclasses := [], abstract := false, collection := none, hasDel := false }), #[none, none, some (.str "Draft" 664), some (.str "Draft" 672), some (.builtin "object.__new__"), some (.bool true)]⟩
noncomputable def o439 : Obj := ⟨.type "getset_descriptor", none, (.fields #[.str "__dict__" 780, .ref 438, .builtin "function.__dict__", .builtin "function.__dict__#set"]), #[]⟩
noncomputable def o440 : Obj := ⟨.type "getset_descriptor", none, (.fields #[.str "__weakref__" 782, .ref 438, .builtin "ExceptionGroup.__weakref__", .none]), #[]⟩
noncomputable def o448 : Obj := cO "read" "read" 787 238 1 443 444 .none (.ref 445) (.ref 446) 447 794
noncomputable def o449 : Obj := ⟨.type "function", none, (.func (fF "read" "read" (top 48) .none .none .none (.str "carvebed.programs" 658) none (.ref 448) .none)), #[]⟩
noncomputable def o455 : Obj := cO "_law_cell_at" "_law_cell_at" 799 249 2 450 451 .none (.ref 452) (.ref 453) 454 804
noncomputable def o456 : Obj := ⟨.type "function", none, (.func (fF "_law_cell_at" "_law_cell_at" (top 50) .none .none .none (.str "law_carvebed_k07_faults_together" 797) none (.ref 455) .none)), #[]⟩
noncomputable def o462 : Obj := cO "_law_stir" "_law_stir" 807 253 2 457 458 .none (.ref 459) (.ref 460) 461 813
noncomputable def o463 : Obj := ⟨.type "function", none, (.func (fF "_law_stir" "_law_stir" (top 51) .none .none .none (.str "law_carvebed_k07_faults_together" 797) none (.ref 462) .none)), #[]⟩
noncomputable def o469 : Obj := cO "_law_bad" "_law_bad" 816 259 1 464 465 .none (.ref 466) (.ref 467) 468 821
noncomputable def o470 : Obj := ⟨.type "function", none, (.func (fF "_law_bad" "_law_bad" (top 52) .none .none .none (.str "law_carvebed_k07_faults_together" 797) none (.ref 469) .none)), #[]⟩
noncomputable def o476 : Obj := cO "_law_any_row" "_law_any_row" 824 271 1 471 472 .none (.ref 473) (.ref 474) 475 832
noncomputable def o477 : Obj := ⟨.type "function", none, (.func (fF "_law_any_row" "_law_any_row" (top 53) .none .none .none (.str "law_carvebed_k07_faults_together" 797) none (.ref 476) .none)), #[]⟩
noncomputable def o481 : Obj := cO "_law_judged" "_law_judged" 835 290 1 478 479 .none .none .none 480 838
noncomputable def o482 : Obj := ⟨.type "function", none, (.func (fF "_law_judged" "_law_judged" (top 54) .none .none .none (.str "law_carvebed_k07_faults_together" 797) none (.ref 481) .none)), #[]⟩
noncomputable def o488 : Obj := cO "_law_refusal" "_law_refusal" 841 317 1 483 484 .none (.ref 485) (.ref 486) 487 847
noncomputable def o489 : Obj := ⟨.type "function", none, (.func (fF "_law_refusal" "_law_refusal" (top 55) .none .none .none (.str "law_carvebed_k07_faults_together" 797) none (.ref 488) .none)), #[]⟩
noncomputable def o493 : Obj := cO "law" "law" 850 327 1 490 491 .none .none .none 492 853
noncomputable def o494 : Obj := ⟨.type "function", none, (.func (fF "law" "law" (top 56) .none .none .none (.str "law_carvebed_k07_faults_together" 797) none (.ref 493) .none)), #[]⟩
noncomputable def KK (P : Params) : PySem.W.Frag := (nat_lit 2, o2) :: (nat_lit 3, o3 P) :: (nat_lit 23, o23 P) :: (nat_lit 24, o24) :: (nat_lit 25, o25) :: (nat_lit 36, o36 P) :: (nat_lit 37, o37) :: (nat_lit 48, o48 P) :: (nat_lit 49, o49) :: (nat_lit 60, o60 P) :: (nat_lit 61, o61) :: (nat_lit 72, o72 P) :: (nat_lit 73, o73) :: (nat_lit 84, o84 P) :: (nat_lit 85, o85) :: (nat_lit 96, o96 P) :: (nat_lit 97, o97) :: (nat_lit 108, o108 P) :: (nat_lit 109, o109) :: (nat_lit 120, o120 P) :: (nat_lit 121, o121) :: (nat_lit 132, o132 P) :: (nat_lit 133, o133) :: (nat_lit 144, o144 P) :: (nat_lit 145, o145) :: (nat_lit 156, o156 P) :: (nat_lit 157, o157) :: (nat_lit 168, o168 P) :: (nat_lit 169, o169) :: (nat_lit 172, o172) :: (nat_lit 176, o176) :: (nat_lit 177, o177) :: (nat_lit 183, o183) :: (nat_lit 184, o184) :: (nat_lit 190, o190) :: (nat_lit 191, o191) :: (nat_lit 204, o204) :: (nat_lit 205, o205) :: (nat_lit 211, o211) :: (nat_lit 212, o212) :: (nat_lit 218, o218) :: (nat_lit 219, o219) :: (nat_lit 225, o225) :: (nat_lit 226, o226) :: (nat_lit 232, o232) :: (nat_lit 233, o233) :: (nat_lit 239, o239) :: (nat_lit 240, o240) :: (nat_lit 246, o246) :: (nat_lit 247, o247) :: (nat_lit 253, o253) :: (nat_lit 254, o254) :: (nat_lit 256, o256 P) :: (nat_lit 257, o257) :: (nat_lit 258, o258) :: (nat_lit 259, o259) :: (nat_lit 267, o267) :: (nat_lit 268, o268) :: (nat_lit 269, o269) :: (nat_lit 270, o270) :: (nat_lit 276, o276) :: (nat_lit 277, o277) :: (nat_lit 283, o283) :: (nat_lit 284, o284) :: (nat_lit 290, o290) :: (nat_lit 291, o291) :: (nat_lit 297, o297) :: (nat_lit 298, o298) :: (nat_lit 304, o304) :: (nat_lit 305, o305) :: (nat_lit 309, o309) :: (nat_lit 310, o310) :: (nat_lit 316, o316) :: (nat_lit 317, o317) :: (nat_lit 323, o323) :: (nat_lit 324, o324) :: (nat_lit 330, o330) :: (nat_lit 331, o331) :: (nat_lit 335, o335) :: (nat_lit 336, o336) :: (nat_lit 337, o337 P) :: (nat_lit 343, o343) :: (nat_lit 344, o344) :: (nat_lit 357, o357) :: (nat_lit 358, o358) :: (nat_lit 364, o364) :: (nat_lit 365, o365) :: (nat_lit 371, o371) :: (nat_lit 372, o372) :: (nat_lit 378, o378) :: (nat_lit 379, o379) :: (nat_lit 385, o385) :: (nat_lit 386, o386) :: (nat_lit 392, o392) :: (nat_lit 393, o393) :: (nat_lit 399, o399) :: (nat_lit 400, o400) :: (nat_lit 406, o406) :: (nat_lit 407, o407) :: (nat_lit 413, o413) :: (nat_lit 414, o414) :: (nat_lit 420, o420) :: (nat_lit 421, o421) :: (nat_lit 427, o427) :: (nat_lit 428, o428) :: (nat_lit 434, o434) :: (nat_lit 435, o435) :: (nat_lit 437, o437 P) :: (nat_lit 438, o438) :: (nat_lit 439, o439) :: (nat_lit 440, o440) :: (nat_lit 448, o448) :: (nat_lit 449, o449) :: (nat_lit 455, o455) :: (nat_lit 456, o456) :: (nat_lit 462, o462) :: (nat_lit 463, o463) :: (nat_lit 469, o469) :: (nat_lit 470, o470) :: (nat_lit 476, o476) :: (nat_lit 477, o477) :: (nat_lit 481, o481) :: (nat_lit 482, o482) :: (nat_lit 488, o488) :: (nat_lit 489, o489) :: (nat_lit 493, o493) :: (nat_lit 494, o494) :: []
noncomputable def KKas : List Addr := nat_lit 2 :: nat_lit 3 :: nat_lit 23 :: nat_lit 24 :: nat_lit 25 :: nat_lit 36 :: nat_lit 37 :: nat_lit 48 :: nat_lit 49 :: nat_lit 60 :: nat_lit 61 :: nat_lit 72 :: nat_lit 73 :: nat_lit 84 :: nat_lit 85 :: nat_lit 96 :: nat_lit 97 :: nat_lit 108 :: nat_lit 109 :: nat_lit 120 :: nat_lit 121 :: nat_lit 132 :: nat_lit 133 :: nat_lit 144 :: nat_lit 145 :: nat_lit 156 :: nat_lit 157 :: nat_lit 168 :: nat_lit 169 :: nat_lit 172 :: nat_lit 176 :: nat_lit 177 :: nat_lit 183 :: nat_lit 184 :: nat_lit 190 :: nat_lit 191 :: nat_lit 204 :: nat_lit 205 :: nat_lit 211 :: nat_lit 212 :: nat_lit 218 :: nat_lit 219 :: nat_lit 225 :: nat_lit 226 :: nat_lit 232 :: nat_lit 233 :: nat_lit 239 :: nat_lit 240 :: nat_lit 246 :: nat_lit 247 :: nat_lit 253 :: nat_lit 254 :: nat_lit 256 :: nat_lit 257 :: nat_lit 258 :: nat_lit 259 :: nat_lit 267 :: nat_lit 268 :: nat_lit 269 :: nat_lit 270 :: nat_lit 276 :: nat_lit 277 :: nat_lit 283 :: nat_lit 284 :: nat_lit 290 :: nat_lit 291 :: nat_lit 297 :: nat_lit 298 :: nat_lit 304 :: nat_lit 305 :: nat_lit 309 :: nat_lit 310 :: nat_lit 316 :: nat_lit 317 :: nat_lit 323 :: nat_lit 324 :: nat_lit 330 :: nat_lit 331 :: nat_lit 335 :: nat_lit 336 :: nat_lit 337 :: nat_lit 343 :: nat_lit 344 :: nat_lit 357 :: nat_lit 358 :: nat_lit 364 :: nat_lit 365 :: nat_lit 371 :: nat_lit 372 :: nat_lit 378 :: nat_lit 379 :: nat_lit 385 :: nat_lit 386 :: nat_lit 392 :: nat_lit 393 :: nat_lit 399 :: nat_lit 400 :: nat_lit 406 :: nat_lit 407 :: nat_lit 413 :: nat_lit 414 :: nat_lit 420 :: nat_lit 421 :: nat_lit 427 :: nat_lit 428 :: nat_lit 434 :: nat_lit 435 :: nat_lit 437 :: nat_lit 438 :: nat_lit 439 :: nat_lit 440 :: nat_lit 448 :: nat_lit 449 :: nat_lit 455 :: nat_lit 456 :: nat_lit 462 :: nat_lit 463 :: nat_lit 469 :: nat_lit 470 :: nat_lit 476 :: nat_lit 477 :: nat_lit 481 :: nat_lit 482 :: nat_lit 488 :: nat_lit 489 :: nat_lit 493 :: nat_lit 494 :: []
noncomputable def kc0 (P : Params) (r : List (Option Obj)) : List (Option Obj) := some (o2) :: some (o3 P) :: some (o23 P) :: some (o24) :: some (o25) :: some (o36 P) :: some (o37) :: some (o48 P) :: some (o49) :: some (o60 P) :: some (o61) :: some (o72 P) :: r
noncomputable def kc1 (P : Params) (r : List (Option Obj)) : List (Option Obj) := some (o73) :: some (o84 P) :: some (o85) :: some (o96 P) :: some (o97) :: some (o108 P) :: some (o109) :: some (o120 P) :: some (o121) :: some (o132 P) :: some (o133) :: some (o144 P) :: r
noncomputable def kc2 (P : Params) (r : List (Option Obj)) : List (Option Obj) := some (o145) :: some (o156 P) :: some (o157) :: some (o168 P) :: some (o169) :: some (o172) :: some (o176) :: some (o177) :: some (o183) :: some (o184) :: some (o190) :: some (o191) :: r
noncomputable def kc3 (P : Params) (r : List (Option Obj)) : List (Option Obj) := some (o204) :: some (o205) :: some (o211) :: some (o212) :: some (o218) :: some (o219) :: some (o225) :: some (o226) :: some (o232) :: some (o233) :: some (o239) :: some (o240) :: r
noncomputable def kc4 (P : Params) (r : List (Option Obj)) : List (Option Obj) := some (o246) :: some (o247) :: some (o253) :: some (o254) :: some (o256 P) :: some (o257) :: some (o258) :: some (o259) :: some (o267) :: some (o268) :: some (o269) :: some (o270) :: r
noncomputable def kc5 (P : Params) (r : List (Option Obj)) : List (Option Obj) := some (o276) :: some (o277) :: some (o283) :: some (o284) :: some (o290) :: some (o291) :: some (o297) :: some (o298) :: some (o304) :: some (o305) :: some (o309) :: some (o310) :: r
noncomputable def kc6 (P : Params) (r : List (Option Obj)) : List (Option Obj) := some (o316) :: some (o317) :: some (o323) :: some (o324) :: some (o330) :: some (o331) :: some (o335) :: some (o336) :: some (o337 P) :: some (o343) :: some (o344) :: some (o357) :: r
noncomputable def kc7 (P : Params) (r : List (Option Obj)) : List (Option Obj) := some (o358) :: some (o364) :: some (o365) :: some (o371) :: some (o372) :: some (o378) :: some (o379) :: some (o385) :: some (o386) :: some (o392) :: some (o393) :: some (o399) :: r
noncomputable def kc8 (P : Params) (r : List (Option Obj)) : List (Option Obj) := some (o400) :: some (o406) :: some (o407) :: some (o413) :: some (o414) :: some (o420) :: some (o421) :: some (o427) :: some (o428) :: some (o434) :: some (o435) :: some (o437 P) :: r
noncomputable def kc9 (P : Params) (r : List (Option Obj)) : List (Option Obj) := some (o438) :: some (o439) :: some (o440) :: some (o448) :: some (o449) :: some (o455) :: some (o456) :: some (o462) :: some (o463) :: some (o469) :: some (o470) :: some (o476) :: r
noncomputable def kc10 (P : Params) (r : List (Option Obj)) : List (Option Obj) := some (o477) :: some (o481) :: some (o482) :: some (o488) :: some (o489) :: some (o493) :: some (o494) :: r
noncomputable def KKv (P : Params) : List (Option Obj) := kc0 P (kc1 P (kc2 P (kc3 P (kc4 P (kc5 P (kc6 P (kc7 P (kc8 P (kc9 P (kc10 P ([])))))))))))
noncomputable def hLoose : List Str := .ofString "CarveError" :: .ofString "TooLong" :: .ofString "NoRow" :: .ofString "NoPlace" :: .ofString "TooDeep" :: .ofString "Twice" :: .ofString "Open" :: .ofString "NoSub" :: .ofString "NoForm" :: .ofString "NoBed" :: .ofString "NoMeasure" :: .ofString "NoCell" :: .ofString "NoCutter" :: .ofString "SMALL_LETTERS" :: .ofString "FIGURES" :: .ofString "JOINTS" :: .ofString "KEPT_WORDS" :: .ofString "MOST_LETTERS" :: .ofString "MOST_FIGURES" :: .ofString "MOST_SIGNS" :: .ofString "MOST_BRACKETS" :: .ofString "is_written_in" :: .ofString "is_name" :: .ofString "is_number" :: .ofString "Scan" :: .ofString "expression" :: .ofString "AXES" :: .ofString "COMPARISONS" :: .ofString "MOST_NAMES" :: .ofString "look_at_length" :: .ofString "name_of" :: .ofString "hold_row" :: .ofString "move_row" :: .ofString "let_row" :: .ofString "call_row" :: .ofString "times_row" :: .ofString "if_row" :: .ofString "bare_row" :: .ofString "sub_row" :: .ofString "FORMS" :: .ofString "row_of" :: .ofString "MOST_ROWS" :: .ofString "MOST_BODIES" :: .ofString "Draft" :: .ofString "read" :: .ofString "_law_cell_at" :: .ofString "_law_stir" :: .ofString "_law_bad" :: .ofString "_law_any_row" :: .ofString "_law_judged" :: .ofString "_law_refusal" :: []
noncomputable def hQ : Program := { PySem.Challenge.pw_carvebed_k07_faults_together with main := { PySem.Challenge.pw_carvebed_k07_faults_together.main with body := [top 56] } }
noncomputable def hL (wd : World) (os : OsState) := sight PySem.Challenge.pw_carvebed_k07_faults_together hQ hLoose (fun s => KKas.map s.heap.get?) 4829 wd os
noncomputable def hR (wd : World) := some (true, openGood hQ hLoose, KKv wd.params)
theorem hL_e : hL = hL := Eq.refl hL
theorem hR_e : hR = hR := Eq.refl hR
name_quick hLq for Car.hL by Car.hL_e
name_quick hRq for Car.hR by Car.hR_e
set_option maxHeartbeats 0 in
theorem hTf (wd : World) (os : OsState) : PySem.W.Fast.hLq (wd.withFollow "special-get-raises" false) os = PySem.W.Fast.hRq (wd.withFollow "special-get-raises" false) := by kernel_rfl
set_option maxHeartbeats 0 in
theorem hTt (wd : World) (os : OsState) : PySem.W.Fast.hLq (wd.withFollow "special-get-raises" true) os = PySem.W.Fast.hRq (wd.withFollow "special-get-raises" true) := by kernel_rfl
theorem hAll : ∀ (wd : World) (os : OsState), PySem.W.Fast.hLq wd os = PySem.W.Fast.hRq wd := (byRow2 "special-get-raises" (P := fun wd => ∀ os, PySem.W.Fast.hLq wd os = PySem.W.Fast.hRq wd) (fun wd os => hTf wd os) (fun wd os => hTt wd os))
theorem hSeen (wd : World) (os : OsState) : sight PySem.Challenge.pw_carvebed_k07_faults_together hQ hLoose (fun s => KKas.map s.heap.get?) 4829 wd os = some (true, openGood hQ hLoose, (KK wd.params).map fun x => some x.2) :=
  (congrFun (congrFun PySem.W.Fast.hLq_eq wd) os).trans ((hAll wd os).trans (congrFun PySem.W.Fast.hRq_eq wd).symm)
noncomputable def hH : Hook := kHook KK KKas (fun _ => rfl)
theorem hLeft : LeftO PySem.Challenge.pw_carvebed_k07_faults_together hQ hLoose (fun s => xlAt hQ [] s && recOk [] s) (Hook.obs hH) (Hook.val hH) 9718 := left_by rfl (Eq.refl _) rfl (fun s => Eq.refl _) hSeen
end Car

set_option maxHeartbeats 1000000
seal L2.PE L2.PT L2.PW L2.PA L2.PS L2.PSs L2.PG L2.PGs L2.PI L2.PSet L2.PC L2.OpR L2.UnR L2.CallR L2.TruR L2.IxR L2.SlR L2.PO L2.InOp L2.PX L2.PIfs
namespace Car
open PySem L2
noncomputable abbrev sWritten : Stmt := top 23
noncomputable abbrev sName : Stmt := top 24
noncomputable abbrev sNumber : Stmt := top 25
/-! ### words -/
noncomputable abbrev cl (z : Str) : List Nat := z.cps.toList
noncomputable abbrev smallT : Str := "abcdefghijklmnopqrstuvwxyz"
noncomputable abbrev figT : Str := "0123456789"
noncomputable abbrev jointT : Str := "+-*()"
noncomputable def keptW : List Str := ["hold", "fast", "slow", "by", "let", "times", "if", "else", "end", "sub", "call", "x", "y", "z"]
noncomputable def wrt (z s : Str) : Bool := (cl z).all fun c => decide (c ∈ cl s)
noncomputable def nameS (z : Str) : Bool := decide (1 ≤ z.length ∧ z.length ≤ 8) && (wrt z smallT && !inV (.str z) (keptW.map V.str))
noncomputable def numS (z : Str) : Bool := (decide (1 ≤ z.length ∧ z.length ≤ 6) && wrt z figT) && (decide (z = "0") || decide (z.cps[0]? ≠ some 48))
structure WdT (K : PySem.W.Frag) (mg : Str → Option Value) : Prop where
  all : mg "all" = none
  small : ∃ t, mg "SMALL_LETTERS" = some (.str smallT t)
  fig : ∃ t, mg "FIGURES" = some (.str figT t)
  joint : ∃ t, mg "JOINTS" = some (.str jointT t)
  kept : ∃ a, mg "KEPT_WORDS" = some (.ref a) ∧ ∀ H : Hp, SqT K H a (keptW.map V.str)
  ml : ∃ t, mg "MOST_LETTERS" = some (.int 8 t)
  mf : ∃ t, mg "MOST_FIGURES" = some (.int 6 t)
  ms : ∃ t, mg "MOST_SIGNS" = some (.int 60 t)
  mb : ∃ t, mg "MOST_BRACKETS" = some (.int 5 t)
theorem bt_all : bootBuiltins "all" = some (.builtin "all") := by decide +kernel
theorem ndss : (["sign", "signs"] : List Str).Nodup := by decide +kernel
theorem wrt_take {z s : Str} {i c : Nat} (h : z.cps[i]? = some c) : ((cl z).take (i + 1)).map (fun c => decide (c ∈ cl s)) = ((cl z).take i).map (fun c => decide (c ∈ cl s)) ++ [decide (c ∈ cl s)] := by
  have hc : (cl z)[i]? = some c := by simpa using h
  obtain ⟨hl, e⟩ := List.getElem?_eq_some_iff.mp hc
  rw [List.take_succ_eq_append_getElem hl, e, List.map_append]
  rfl
section
variable {P : Program} {w : World} {K : PySem.W.Frag} {mg : Str → Option Value} {base : Heap} {f : Addr} {fd' : FuncData}
noncomputable def spWritten : Sp := fun vs H Q _ => ∃ z s : Str, vs = [.str z, .str s] ∧ z.length ≤ 1000 ∧ ∀ H', Same H H' → Q (.bl (wrt z s)) H'
theorem scWritten : FnScope ["word", "signs"] ["word", "signs"] (defScope sWritten) := ⟨rfl, rfl, rfl, by decide +kernel, rfl, by decide +kernel, by decide +kernel⟩
theorem ok_written (W : WdT K mg) (F : Fun K "is_written_in" "is_written_in" sWritten f fd') : FnOk P w K mg base (CX1 P w) 1 f fd' ["word", "signs"] spWritten := by
  have nd := scWritten.nd
  refine F.ok1 scWritten (fun vs H Q E h => ?_) (fun cdv A outer s H vs Q E hr h => ?_)
  · obtain ⟨z, y, rfl, _⟩ := h
    rfl
  obtain ⟨z, y, rfl, hz, q⟩ := h
  refine ⟨_, (pss_one (ps_ret (pe_callB (call_allB rfl) rfl W.all bt_all (pa_cons (pe_lc (own := ["sign"]) (capn := ["signs"]) (capI := [1]) rfl (blkC (defScope sWritten) rfl rfl (by decide +kernel) rfl (fun y hy => by rcases List.mem_cons.mp hy with rfl | hy; exact ⟨rfl, rfl⟩; cases hy)) (pi_str (pv 0)) (fun _ _ _ _ _ _ => pg_name (i := 0) ndss rfl (Or.inl rfl)) (fun _ _ _ _ _ _ => pifs_nil) (fun _ _ _ _ _ _ => (pe_cmpR op_in_str (pv 0) (pv 1) (by with_unfolding_all rfl)))) pa_nil)))), ?_⟩
  refine ⟨_, rfl, z, rfl, fun D hD => ?_⟩
  refine ⟨Wd z.cps.size (fun i σ acc H2 => ∃ o : Option V, σ = [o, some (.str y)] ∧ acc = (((cl z).take i).map fun c => decide (c ∈ cl y)).map V.bl ∧ Same H H2 ∧ H2 D = some (.lst acc)), wd_0 ⟨none, rfl, rfl, same_upd hD _, upd_same⟩, ?_⟩
  rintro i m σ acc H2 ⟨rfl, hi0, o, rfl, rfl, s2, hD2⟩
  have hl : z.cps.size = z.length := rfl
  refine st_ask hi0 (fun c hc hi => ?_) (fun hend => ?_)
  · refine ⟨_, rfl, _, rfl, _, _, rfl, rfl, hD2, ?_, wd_next hi ⟨_, rfl, ?_, same_in s2 hD, upd_same⟩⟩
    · rw [List.length_map, List.length_map]
      exact line3 (show _ ≤ 1000 by rw [List.length_take]; omega) (by decide)
    · rw [wrt_take hc, List.map_append, StrLaws.found_one]
      rfl
  · refine ⟨D, _, rfl, SqL.of hD2, ?_⟩
    rw [hend, List.take_of_length_le (by simp)]
    have : (((cl z).map fun c => decide (c ∈ cl y)).all id) = wrt z y := by
      rw [List.all_map]
      rfl
    rw [this]
    exact q _ s2
noncomputable def spName : Sp := fun vs H Q _ => ∃ z : Str, vs = [.str z] ∧ z.length ≤ 1000 ∧ ∀ H', Same H H' → Q (.bl (nameS z)) H'
theorem scName : FnScope ["word"] ["word"] (defScope sName) := ⟨rfl, rfl, rfl, by decide +kernel, rfl, by decide +kernel, by decide +kernel⟩
theorem kept_flat : (keptW.map V.str).all flatV = true := by decide +kernel
theorem ok_name (T : LawT mg) (W : WdT K mg) (FW : Fn P w K mg base "is_written_in" 1 ["word", "signs"] spWritten) (F : Fun K "is_name" "is_name" sName f fd') : FnOk P w K mg base (CX1 P w) 2 f fd' ["word"] spName := by
  have nd := scName.nd
  refine F.ok1 scName (fun vs H Q E h => ?_) (fun cdv A outer s H vs Q E hr h => ?_)
  · obtain ⟨z, rfl, _⟩ := h
    rfl
  obtain ⟨z, rfl, hz, q⟩ := h
  obtain ⟨t1, g1⟩ := W.ml
  obtain ⟨t2, g2⟩ := W.small
  obtain ⟨a, g3, hk⟩ := W.kept
  have hz' : z.length ≤ sizeLine := Nat.le_of_lt (line3 hz (by decide))
  refine ⟨_, (pss_one (ps_ret (pe_and (pe_chain op_le op_le pe_int (pe_callB call_len_str rfl T.len PySem.boot_len (pa_cons (pv 0) pa_nil)) (pe_glob (v := .int 8) rfl g1 ⟨_, rfl⟩)) (pe_and (pf_call FW hr rfl (pass1 (E := E)) (pa_cons (pv 0) (pa_cons (pe_glob (v := .str smallT) rfl g2 ⟨_, rfl⟩) pa_nil))) (pe_one (pe_cmpR op_notIn_seq (pv 0) (pe_glob (v := .ref a) rfl g3 rfl) (by with_unfolding_all rfl))))))), ?_⟩
  refine ⟨_, rfl, z, rfl, hz', _, _, rfl, rfl, _, rfl, ?_⟩
  have fin : ∀ (b c : Bool), decide (1 ≤ z.length ∧ z.length ≤ 8) = b → (b = true → c = (wrt z smallT && !inV (.str z) (keptW.map V.str))) → (b = false → c = false) → c = nameS z := fun b c h1 h2 h3 => by
    unfold nameS
    rw [h1]
    cases b with
    | true => rw [h2 rfl]; rfl
    | false => rw [h3 rfl]; rfl
  refine ite2 (fun c1 => ?_) (fun c1 => ?_)
  · have c1' : (1 : Int) ≤ (z.length : Int) := of_decide_eq_true c1
    refine ⟨_, _, rfl, rfl, _, rfl, ?_⟩
    refine ite2 (fun c2 => ?_) (fun c2 => ?_)
    · have c2' : (z.length : Int) ≤ 8 := of_decide_eq_true c2
      have hb : decide (1 ≤ z.length ∧ z.length ≤ 8) = true := decide_eq_true (by omega)
      refine ⟨_, rfl, z, smallT, rfl, hz, fun H1 s1 => ⟨_, rfl, ?_⟩⟩
      refine ite2 (fun c3 => ?_) (fun c3 => ?_)
      · refine ⟨_, rfl, a, _, rfl, .inr (hk _), rfl, kept_flat, ?_⟩
        show Q (.bl (!inV (.str z) (keptW.map V.str))) H1
        rw [fin true (!inV (.str z) (keptW.map V.str)) hb (fun _ => by rw [c3]; rfl) (fun h => by cases h)]
        exact q _ s1
      · rw [fin true false hb (fun _ => by rw [Bool.eq_false_iff.mpr c3]; rfl) (fun h => by cases h)]
        exact q _ s1
    · have c2' : ¬ (z.length : Int) ≤ 8 := fun h => c2 (decide_eq_true h)
      rw [fin false false (decide_eq_false (by omega)) (fun h => by cases h) (fun _ => rfl)]
      exact q _ (Same.refl _)
  · have c1' : ¬ (1 : Int) ≤ (z.length : Int) := fun h => c1 (decide_eq_true h)
    refine ⟨_, rfl, iteF ?_⟩
    rw [fin false false (decide_eq_false (by omega)) (fun h => by cases h) (fun _ => rfl)]
    exact q _ (Same.refl _)
noncomputable def spNumber : Sp := fun vs H Q _ => ∃ z : Str, vs = [.str z] ∧ z.length ≤ 1000 ∧ ∀ H', Same H H' → Q (.bl (numS z)) H'
theorem scNumber : FnScope ["word"] ["word"] (defScope sNumber) := ⟨rfl, rfl, rfl, by decide +kernel, rfl, by decide +kernel, by decide +kernel⟩
theorem decS (x y : Str) : decide (V.str x = V.str y) = decide (x = y) := by
  by_cases h : x = y
  · rw [decide_eq_true h, decide_eq_true (by rw [h])]
  · rw [decide_eq_false h, decide_eq_false (fun z => h (by injection z))]
theorem one_zero (c : Nat) : decide ((⟨#[c]⟩ : Str) = "0") = decide (c = 48) := by
  by_cases h : c = 48
  · subst h
    rw [decide_eq_true rfl]
    decide +kernel
  · rw [decide_eq_false h]
    refine decide_eq_false fun z => h ?_
    have : (⟨#[c]⟩ : Str).cps = (Str.ofString "0").cps := by rw [z]
    have e : (Str.ofString "0").cps = #[48] := by decide +kernel
    rw [e] at this
    simpa using this
theorem ok_number (T : LawT mg) (W : WdT K mg) (FW : Fn P w K mg base "is_written_in" 1 ["word", "signs"] spWritten) (F : Fun K "is_number" "is_number" sNumber f fd') : FnOk P w K mg base (CX1 P w) 2 f fd' ["word"] spNumber := by
  have nd := scNumber.nd
  refine F.ok1 scNumber (fun vs H Q E h => ?_) (fun cdv A outer s H vs Q E hr h => ?_)
  · obtain ⟨z, rfl, _⟩ := h
    rfl
  obtain ⟨z, rfl, hz, q⟩ := h
  obtain ⟨t1, g1⟩ := W.mf
  obtain ⟨t2, g2⟩ := W.fig
  have hz' : z.length ≤ sizeLine := Nat.le_of_lt (line3 hz (by decide))
  refine ⟨_, (pss_mid (ps_if (PW.pt (pw_or (pt_not (pt_chain op_le op_le pe_int (pe_callB call_len_str rfl T.len PySem.boot_len (pa_cons (pv 0) pa_nil)) (pe_glob (v := .int 6) rfl g1 ⟨_, rfl⟩))) (pw_or1 (pt_not (pt_truth (pf_call FW hr rfl (pass1 (E := E)) (pa_cons (pv 0) (pa_cons (pe_glob (v := .str figT) rfl g2 ⟨_, rfl⟩) pa_nil))) (fun _ => rfl)))))) (pss_one (ps_ret pe_bl)) pss_nil)
    (pss_one (ps_ret (pe_or (pe_cmpR op_eq (pv 0) pe_str (nomark _)) (pe_one (pe_cmpR op_ne (pe_ix ix_str (pv 0) pe_int (fun _ _ => rfl)) pe_str (nomark _))))))), ?_⟩
  refine ⟨fun σ H1 => σ = [some (.str z)] ∧ Same H H1 ∧ 1 ≤ z.length ∧ z.length ≤ 6 ∧ wrt z figT = true, ?_, ?_⟩
  · refine ⟨_, rfl, z, rfl, hz', _, _, rfl, rfl, _, rfl, ?_⟩
    refine ite2 (fun c1 => ?_) (fun c1 => ?_)
    · have c1' : (1 : Int) ≤ (z.length : Int) := of_decide_eq_true c1
      refine ⟨_, _, rfl, rfl, _, rfl, ?_⟩
      by_cases c2 : (z.length : Int) ≤ 6
      · rw [decide_eq_true c2]
        refine iteF ⟨_, rfl, z, figT, rfl, hz, fun H1 s1 => ⟨_, rfl, ?_⟩⟩
        cases c3 : wrt z figT with
        | true => exact iteF ⟨rfl, s1, by omega, by omega, rfl⟩
        | false =>
          refine iteT ?_
          have e : numS z = false := by unfold numS; rw [c3, Bool.and_false, Bool.false_and]
          rw [e] at q
          exact q _ s1
      · rw [decide_eq_false c2]
        refine iteT (iteT ?_)
        have e : numS z = false := by unfold numS; rw [decide_eq_false (by omega), Bool.false_and, Bool.false_and]
        rw [e] at q
        exact q _ (Same.refl _)
    · have c1' : ¬ (1 : Int) ≤ (z.length : Int) := fun h => c1 (decide_eq_true h)
      refine ⟨_, rfl, iteT (iteT ?_)⟩
      have e : numS z = false := by unfold numS; rw [decide_eq_false (by omega), Bool.false_and, Bool.false_and]
      rw [e] at q
      exact q _ (Same.refl _)
  rintro σ H1 ⟨rfl, s1, z1, z6, hw⟩
  have e0 : numS z = (decide (z = "0") || decide (z.cps[0]? ≠ some 48)) := by
    unfold numS
    rw [hw, decide_eq_true ⟨z1, z6⟩]
    rfl
  refine ⟨_, rfl, rfl, _, rfl, ?_⟩
  rw [decS]
  refine ite2 (fun c => ?_) (fun c => ?_)
  · rw [c, Bool.true_or] at e0
    rw [e0] at q
    exact q _ s1
  · obtain ⟨c0, hc0⟩ : ∃ c0, z.cps[0]? = some c0 := ⟨z.cps[0]'(by show 0 < z.length; omega), Array.getElem?_eq_getElem _⟩
    refine ⟨_, rfl, z, 0, c0, rfl, rfl, hz', (show atI _ ((0 : Nat) : Int) = _ from atI_nat (by simpa using hc0)), rfl, ?_⟩
    rw [decS, one_zero]
    rw [Bool.eq_false_iff.mpr c, Bool.false_or, hc0] at e0
    have e1 : decide (some c0 ≠ some 48) = !decide (c0 = 48) := by
      by_cases h : c0 = 48
      · subst h; rfl
      · have h' : some c0 ≠ some 48 := fun z => h (Option.some.inj z)
        rw [decide_eq_true h', decide_eq_false h]; rfl
    rw [e1] at e0
    rw [e0] at q
    exact q _ s1
end
end Car

set_option maxHeartbeats 1000000
namespace Car
open PySem L2
noncomputable abbrev sScanI : Stmt := inClass (top 26) 0
noncomputable abbrev sAhead : Stmt := inClass (top 26) 1
noncomputable abbrev sTakeS : Stmt := inClass (top 26) 2
noncomputable abbrev sTerms : Stmt := inClass (top 26) 3
noncomputable abbrev sFactors : Stmt := inClass (top 26) 4
noncomputable abbrev sFactor : Stmt := inClass (top 26) 5
noncomputable abbrev sBrackets : Stmt := inClass (top 26) 6
noncomputable abbrev sPiece : Stmt := inClass (top 26) 7
noncomputable abbrev sExpr : Stmt := top 27
/-! ### the sign at a place -/
noncomputable def sg (z : Str) (a : Nat) : Str := Txt.slice z (some (a : Int)) (some ((a : Int) + 1))
theorem sg_some {z : Str} {a c : Nat} (h : z.cps[a]? = some c) : sg z a = ⟨#[c]⟩ := by
  have hl : a < z.cps.size := (Array.getElem?_eq_some_iff.mp h).1
  have e : sg z a = ⟨((z.cps.toList.drop a).take 1).toArray⟩ := by
    have := StrLaws.sliceText_plain (x := z) (i := (a : Int)) (j := (a : Int) + 1) ⟨by omega, by omega, by simp; omega⟩
    rw [show ((a : Int) + 1 - (a : Int)).toNat = 1 by omega, Int.toNat_natCast] at this
    exact this
  rw [e]
  have hc : z.cps.toList[a]? = some c := by simpa using h
  obtain ⟨hl2, e2⟩ := List.getElem?_eq_some_iff.mp hc
  rw [List.drop_eq_getElem_cons hl2, List.take_succ_cons, List.take_zero, e2]
theorem sg_none {z : Str} {a : Nat} (h : z.cps.size ≤ a) : sg z a = Str.empty := by
  have e : Builtin.Str.strSliceIndices (some (a : Int)) (some ((a : Int) + 1)) 1 z.length = [] := by
    unfold Builtin.Str.strSliceIndices
    have h' : z.length ≤ a := h
    simp only [show (1 : Int) > 0 by decide, if_true, if_neg (show ¬ (a : Int) < 0 by omega), if_neg (show ¬ (a : Int) + 1 < 0 by omega)]
    rw [show max (0 : Int) (min (a : Int) (z.length : Int)) = z.length by omega, show max (0 : Int) (min ((a : Int) + 1) (z.length : Int)) = z.length by omega]
    unfold sliceRange
    simp
  unfold sg Txt.slice
  rw [e]
  split
  · rename_i c
    have : z.cps.size = 0 := by
      have c2 : ((0 : Nat) == z.length) = true := by simpa using c
      exact (eq_of_beq c2).symm
    apply Str.ext'
    exact Array.eq_empty_of_size_eq_zero this
  · rfl
/-- where a piece ends -/
noncomputable def pcE (z : Str) : Nat → Nat → Nat
  | 0, a => a
  | n + 1, a => match z.cps[a]? with
    | none => a
    | some c => if c ∈ cl jointT then a else pcE z n (a + 1)
noncomputable abbrev pE (z : Str) (a : Nat) : Nat := pcE z (z.length - a) a
noncomputable def piece (z : Str) (a : Nat) : Str := Txt.slice z (some (a : Int)) (some (pE z a : Int))
theorem pcE_le (z : Str) : ∀ n a, a ≤ pcE z n a ∧ (a ≤ z.length → pcE z n a ≤ z.length)
  | 0, a => ⟨Nat.le_refl _, id⟩
  | n + 1, a => by
    unfold pcE
    cases h : z.cps[a]? with
    | none => exact ⟨Nat.le_refl _, id⟩
    | some c =>
      have hl : a < z.cps.size := (Array.getElem?_eq_some_iff.mp h).1
      show a ≤ (if c ∈ cl jointT then a else pcE z n (a + 1)) ∧ (a ≤ z.length → (if c ∈ cl jointT then a else pcE z n (a + 1)) ≤ z.length)
      split
      · exact ⟨Nat.le_refl _, id⟩
      · obtain ⟨h1, h2⟩ := pcE_le z n (a + 1)
        exact ⟨by omega, fun _ => h2 hl⟩
/-! ### the scan on the heap -/
noncomputable def fsS (z : Str) (a b : Nat) : List (Str × V) := [("word", .str z), ("at", .int a), ("brackets", .int b)]
structure ScT (K : PySem.W.Frag) (C : Addr) : Prop where
  cl : Cls K C
  nWord : NoAttr K C "word"
  nAt : NoAttr K C "at"
  nBr : NoAttr K C "brackets"
noncomputable def ScAt (C : Addr) (H : Hp) (x : Addr) (z : Str) (a b : Nat) : Prop := ∃ dx, H x = some (.ins C dx (fsS z a b))
theorem same_dropU {H : Hp} {x : Addr} {o : HO} : Same (drop H x) (drop (upd H x o) x) := by rw [drop_upd_same]; exact Same.refl _
section
variable {P : Program} {w : World} {K : PySem.W.Frag} {mg : Str → Option Value} {base : Heap} {C f : Addr} {fd' : FuncData}
/-! __init__ -/
noncomputable def spScanI (C : Addr) : Sp := fun vs H Q _ => ∃ x dx z, vs = [.ref x, .str z] ∧ H x = some (.ins C dx []) ∧ Q .non (upd H x (.ins C dx (fsS z 0 0)))
theorem scScanI : FnScope ["self", "word"] ["self", "word"] (defScope sScanI) := ⟨rfl, rfl, rfl, by decide +kernel, rfl, by decide +kernel, by decide +kernel⟩
theorem ok_scanI (T : ScT K C) (F : Fun K "__init__" "Scan.__init__" sScanI f fd') : FnOk P w K mg base (CX1 P w) 1 f fd' ["self", "word"] (spScanI C) := by
  refine F.ok1 scScanI (fun vs H Q E h => ?_) (fun cdv A outer s H vs Q E hr h => ?_)
  · obtain ⟨x, dx, z, rfl, _⟩ := h
    rfl
  obtain ⟨x, dx, z, rfl, hx, q⟩ := h
  refine ⟨_, (pss_cons (ps_fld (pv 0) (pv 1) rfl) (pss_cons (ps_fld (pv 0) pe_int rfl) (pss_one (ps_fld (pv 0) pe_int rfl)))), ?_⟩
  refine ⟨_, rfl, _, rfl, x, C, dx, _, rfl, hx, T.cl, T.nWord, (by decide), ?_⟩
  refine ⟨_, rfl, x, C, dx, _, rfl, upd_same, T.cl, T.nAt, (by show 1 < 1000; decide), ?_⟩
  refine ⟨_, rfl, x, C, dx, _, rfl, upd_same, T.cl, T.nBr, (by show 2 < 1000; decide), ?_⟩
  rw [upd_upd, upd_upd]
  exact q
/-! sign_ahead -/
noncomputable def spAhead (C : Addr) : Sp := fun vs H Q _ => ∃ x z a b, vs = [.ref x] ∧ ScAt C H x z a b ∧ z.length ≤ 1000 ∧ Q (.str (sg z a)) H
theorem scAhead : FnScope ["self"] ["self"] (defScope sAhead) := ⟨rfl, rfl, rfl, by decide +kernel, rfl, by decide +kernel, by decide +kernel⟩
theorem ok_ahead (T : ScT K C) (F : Fun K "sign_ahead" "Scan.sign_ahead" sAhead f fd') : FnOk P w K mg base (CX1 P w) 1 f fd' ["self"] (spAhead C) := by
  refine F.ok1 scAhead (fun vs H Q E h => ?_) (fun cdv A outer s H vs Q E hr h => ?_)
  · obtain ⟨x, z, a, b, rfl, _⟩ := h
    rfl
  obtain ⟨x, z, a, b, rfl, ⟨dx, hx⟩, hz, q⟩ := h
  refine ⟨_, (pss_one (ps_ret (pe_slice sl_str (pe_fld (pv 0) rfl) (po_some (pe_fld (pv 0) rfl)) (po_some (pe_op op_add (pe_fld (pv 0) rfl) pe_int))))), ?_⟩
  exact ⟨_, rfl, _, _, _, _, _, rfl, hx, T.cl, T.nWord, rfl, _, rfl, _, _, _, _, _, rfl, hx, T.cl, T.nAt, rfl, _, rfl, _, rfl, _, _, _, _, _, rfl, hx, T.cl, T.nAt, rfl, _, _, rfl, rfl, _, rfl, z, rfl, Nat.le_of_lt (line3 hz (by decide)), q⟩
/-! take_sign -/
noncomputable def spTakeS (C : Addr) : Sp := fun vs H Q _ => ∃ x z a b, vs = [.ref x] ∧ ScAt C H x z a b ∧ z.length ≤ 1000 ∧ ∀ H', Same (drop H x) (drop H' x) → ScAt C H' x z (a + 1) b → Q (.str (sg z a)) H'
theorem scTakeS : FnScope ["self", "sign"] ["self"] (defScope sTakeS) := ⟨rfl, rfl, rfl, by decide +kernel, rfl, by decide +kernel, by decide +kernel⟩
theorem ok_takeS (T : ScT K C) (MA : Mt P w K mg base C "sign_ahead" 1 ["self"] (spAhead C)) (F : Fun K "take_sign" "Scan.take_sign" sTakeS f fd') : FnOk P w K mg base (CX1 P w) 2 f fd' ["self"] (spTakeS C) := by
  have nd := scTakeS.nd
  refine F.ok1 scTakeS (fun vs H Q E h => ?_) (fun cdv A outer s H vs Q E hr h => ?_)
  · obtain ⟨x, z, a, b, rfl, _⟩ := h
    rfl
  obtain ⟨x, z, a, b, rfl, ⟨dx, hx⟩, hz, q⟩ := h
  refine ⟨_, (pss_cons (ps_set (i := 1) nd rfl (Or.inl rfl) (pf_meth0 MA (pv 0) hr (pass1 (E := E)))) (pss_cons (ps_fldaug (pv 0) pe_int in_add) (pss_one (ps_ret (pv 1))))), ?_⟩
  refine ⟨_, rfl, _, _, _, rfl, hx, rfl, x, z, a, b, rfl, ⟨dx, hx⟩, hz, ?_⟩
  refine ⟨_, rfl, _, _, _, _, _, rfl, hx, T.cl, T.nAt, rfl, _, _, rfl, rfl, _, _, hx, (by show 3 < 1000; decide), ?_⟩
  refine ⟨_, rfl, q _ same_dropU ⟨dx, ?_⟩⟩
  exact upd_same
/-! take_piece -/
noncomputable def spPiece (C : Addr) : Sp := fun vs H Q _ => ∃ x z a b, vs = [.ref x] ∧ ScAt C H x z a b ∧ z.length ≤ 1000 ∧ ∀ H', Same (drop H x) (drop H' x) → ScAt C H' x z (pE z a) b → Q (.str (piece z a)) H'
theorem scPiece : FnScope ["self", "start"] ["self"] (defScope sPiece) := ⟨rfl, rfl, rfl, by decide +kernel, rfl, by decide +kernel, by decide +kernel⟩
theorem ok_piece (TT : LawT mg) (W : WdT K mg) (T : ScT K C) (MA : Mt P w K mg base C "sign_ahead" 1 ["self"] (spAhead C)) (F : Fun K "take_piece" "Scan.take_piece" sPiece f fd') : FnOk P w K mg base (CX1 P w) 2 f fd' ["self"] (spPiece C) := by
  have nd := scPiece.nd
  refine F.ok1 scPiece (fun vs H Q E h => ?_) (fun cdv A outer s H vs Q E hr h => ?_)
  · obtain ⟨x, z, a, b, rfl, _⟩ := h
    rfl
  obtain ⟨x, z, a, b, rfl, hx, hz, q⟩ := h
  obtain ⟨t1, g1⟩ := W.joint
  have hz' : z.length ≤ sizeLine := Nat.le_of_lt (line3 hz (by decide))
  refine ⟨_, (pss_cons (ps_set (i := 1) nd rfl (Or.inl rfl) (pe_fld (pv 0) rfl))
    (pss_cons (ps_while own1 (PW.pt (pw_and (pt_cmpR op_lt (pe_fld (pv 0) rfl) (pe_callB call_len_str rfl TT.len PySem.boot_len (pa_cons (pe_fld (pv 0) rfl) pa_nil)) (nomark _)) (pw_and1 (pt_cmpR op_notIn_str (pf_meth0 MA (pv 0) hr (pass1 (E := E))) (pe_glob (v := .str jointT) rfl g1 ⟨_, rfl⟩) (by with_unfolding_all rfl))))) (pss_one (ps_fldaug (pv 0) pe_int in_add)))
    (pss_one (ps_ret (pe_slice sl_str (pe_fld (pv 0) rfl) (po_some (pv 1)) (po_some (pe_fld (pv 0) rfl))))))), ?_⟩
  obtain ⟨dx, hx'⟩ := hx
  refine ⟨_, rfl, _, _, _, _, _, rfl, hx', T.cl, T.nAt, rfl, ?_⟩
  refine ⟨fun m σ H1 => ∃ k, σ = [some (.ref x), some (.int (a : Int))] ∧ m = z.length - k ∧ Same (drop H x) (drop H1 x) ∧ ScAt C H1 x z k b ∧ pcE z (z.length - k) k = pE z a, ⟨_, a, rfl, rfl, Same.refl _, ⟨dx, hx'⟩, rfl⟩, ?_⟩
  rintro m σ H1 ⟨k, rfl, rfl, s1, ⟨dx, hx⟩, hp⟩
  have fin : pE z a = k → tRet (tSl rSlS (tFld K (tVar 0) "word") (tPart (tVar 1)) (tPart (tFld K (tVar 0) "at"))) { nx := fun _ H' => Q .non H', rt := Q } [some (.ref x), some (.int (a : Int))] H1 := fun e => by
    refine ⟨_, rfl, _, _, _, _, _, rfl, hx, T.cl, T.nWord, rfl, _, rfl, _, rfl, _, rfl, _, _, _, _, _, rfl, hx, T.cl, T.nAt, rfl, _, rfl, z, rfl, hz', ?_⟩
    have q' := q H1 s1 ⟨dx, by rw [e]; exact hx⟩
    unfold piece at q'
    rw [e] at q'
    exact q'
  refine ⟨_, rfl, _, _, _, _, _, rfl, hx, T.cl, T.nAt, rfl, _, rfl, _, _, _, _, _, rfl, hx, T.cl, T.nWord, rfl, z, rfl, hz', _, _, rfl, rfl, _, rfl, ?_⟩
  refine ite2 (fun c1 => ?_) (fun c1 => ?_)
  · have c1' : k < z.length := by have : (k : Int) < (z.length : Int) := of_decide_eq_true c1; omega
    have hc := Array.getElem?_eq_getElem (xs := z.cps) (i := k) c1'
    refine ⟨_, rfl, _, _, _, rfl, hx, rfl, x, z, k, b, rfl, ⟨dx, hx⟩, hz, _, _, rfl, rfl, _, rfl, ?_⟩
    rw [sg_some hc, StrLaws.found_one]
    rw [show z.length - k = (z.length - (k + 1)) + 1 by omega, pcE, hc] at hp
    by_cases c2 : z.cps[k] ∈ cl jointT
    · rw [decide_eq_true c2]
      refine iteF (fin ?_)
      have hp' : (if z.cps[k] ∈ cl jointT then k else pcE z (z.length - (k + 1)) (k + 1)) = pE z a := hp
      rw [if_pos c2] at hp'
      exact hp'.symm
    · rw [decide_eq_false c2]
      have hp' : (if z.cps[k] ∈ cl jointT then k else pcE z (z.length - (k + 1)) (k + 1)) = pE z a := hp
      rw [if_neg c2] at hp'
      refine iteT ⟨fun σ H2 => ∃ k', k' = k + 1 ∧ σ = [some (.ref x), some (.int (a : Int))] ∧ Same (drop H x) (drop H2 x) ∧ ScAt C H2 x z k' b, fun σ' H2 ⟨k', e, r1, r2, r3⟩ => ⟨z.length - (k + 1), by omega, k + 1, r1, rfl, r2, by rw [← e]; exact r3, hp'⟩, ?_⟩
      refine ⟨_, rfl, _, _, _, _, _, rfl, hx, T.cl, T.nAt, rfl, _, _, rfl, rfl, _, _, hx, (by show 3 < 1000; decide), k + 1, rfl, rfl, s1.trans same_dropU, dx, ?_⟩
      exact upd_same
  · have c1' : ¬ k < z.length := fun h => c1 (decide_eq_true (by show (k : Int) < (z.length : Int); omega))
    refine iteF (fin ?_)
    rw [show z.length - k = 0 by omega, pcE] at hp
    exact hp.symm
end
end Car

set_option maxHeartbeats 1000000
namespace Car
open PySem L2
/-! ### what a word is read as -/
inductive Ex where
  | num (n : Int)
  | nam (x : Str)
  | bin (s : Str) (a b : Ex)
noncomputable def Ex.dat : Ex → PyData
  | .num n => .tuple [.str "number", .int n]
  | .nam x => .tuple [.str "name", .str x]
  | .bin s a b => .tuple [.str s, a.dat, b.dat]
noncomputable abbrev Rd1 := Option (Ex × Nat)
noncomputable def numV (p : Str) : Int := ((PySem.NumText.digitsVal (cl p) : Nat) : Int)
noncomputable def leaf (z : Str) (a : Nat) : Rd1 := if numS (piece z a) = true then some (.num (numV (piece z a)), pE z a) else if nameS (piece z a) = true then some (.nam (piece z a), pE z a) else none
/-- brackets: behind the opening one stands what inner reads -/
noncomputable def brk (z : Str) (inner : Nat → Rd1) (a : Nat) : Rd1 := match inner (a + 1) with
  | none => none
  | some (e, a1) => if sg z a1 = ")" then some (e, a1 + 1) else none
noncomputable def fac (z : Str) (inner : Nat → Rd1) (a : Nat) : Rd1 := if sg z a = "(" then brk z inner a else leaf z a
/-- like signs, from left to right -/
noncomputable def lp (z : Str) (p : Nat → Rd1) (S : Str → Bool) : Nat → Ex → Nat → Rd1
  | 0, e, a => some (e, a)
  | n + 1, e, a => if S (sg z a) = true then match p (a + 1) with
      | none => none
      | some (f, a1) => lp z p S n (.bin (sg z a) e f) a1
    else some (e, a)
noncomputable def row (z : Str) (p : Nat → Rd1) (S : Str → Bool) (a : Nat) : Rd1 := match p a with
  | none => none
  | some (e, a1) => lp z p S (z.length + 1) e a1
noncomputable def isStar (x : Str) : Bool := decide (x = "*")
noncomputable def isSum (x : Str) : Bool := decide (x = "+") || decide (x = "-")
noncomputable def terms (z : Str) (inner : Nat → Rd1) : Nat → Rd1 := row z (row z (fac z inner) isStar) isSum
/-- d brackets more at the most -/
noncomputable def parse (z : Str) : Nat → Nat → Rd1
  | 0 => terms z fun _ => none
  | d + 1 => terms z (parse z d)
/-- what reads the brackets' inner -/
noncomputable def inn (z : Str) : Nat → Nat → Rd1
  | 0 => fun _ => none
  | d + 1 => parse z d
theorem parse_inn (z : Str) (d : Nat) : parse z d = terms z (inn z d) := by cases d <;> rfl
/-! no reading goes back -/
noncomputable def Fwd (p : Nat → Rd1) : Prop := ∀ a e a1, p a = some (e, a1) → a ≤ a1
theorem fwd_leaf (z : Str) : Fwd (leaf z) := fun a e a1 h => by
  have hp := (pcE_le z (z.length - a) a).1
  unfold leaf at h
  split at h
  · cases h; exact hp
  · split at h
    · cases h; exact hp
    · cases h
theorem fwd_brk {z : Str} {p : Nat → Rd1} (h : Fwd p) : Fwd (brk z p) := fun a e a1 q => by
  unfold brk at q
  cases hp : p (a + 1) with
  | none => rw [hp] at q; cases q
  | some r =>
    obtain ⟨f, b⟩ := r
    have := h _ _ _ hp
    rw [hp] at q
    have q' : (if sg z b = ")" then some (f, b + 1) else none) = some (e, a1) := q
    split at q'
    · cases q'; omega
    · cases q'
theorem fwd_fac {z : Str} {p : Nat → Rd1} (h : Fwd p) : Fwd (fac z p) := fun a e a1 q => by
  unfold fac at q
  split at q
  · exact fwd_brk h _ _ _ q
  · exact fwd_leaf z _ _ _ q
theorem fwd_lp {z : Str} {p : Nat → Rd1} {S : Str → Bool} (h : Fwd p) : ∀ n e a e1 a1, lp z p S n e a = some (e1, a1) → a ≤ a1
  | 0, e, a, e1, a1, q => by cases q; exact Nat.le_refl _
  | n + 1, e, a, e1, a1, q => by
    unfold lp at q
    split at q
    · cases hp : p (a + 1) with
      | none => rw [hp] at q; cases q
      | some r =>
        obtain ⟨f, b⟩ := r
        have h1 := h _ _ _ hp
        rw [hp] at q
        have h2 := fwd_lp h n _ _ _ _ q
        omega
    · cases q; exact Nat.le_refl _
theorem fwd_row {z : Str} {p : Nat → Rd1} {S : Str → Bool} (h : Fwd p) : Fwd (row z p S) := fun a e a1 q => by
  unfold row at q
  cases hp : p a with
  | none => rw [hp] at q; cases q
  | some r =>
    obtain ⟨f, b⟩ := r
    have h1 := h _ _ _ hp
    rw [hp] at q
    have h2 := fwd_lp h _ _ _ _ _ q
    omega
theorem fwd_terms {z : Str} {p : Nat → Rd1} (h : Fwd p) : Fwd (terms z p) := fwd_row (fwd_row (fwd_fac h))
theorem fwd_none : Fwd fun _ => none := fun _ _ _ q => by cases q
theorem fwd_parse (z : Str) : ∀ d, Fwd (parse z d)
  | 0 => fwd_terms fwd_none
  | d + 1 => fwd_terms (fwd_parse z d)
theorem fwd_inn (z : Str) : ∀ d, Fwd (inn z d)
  | 0 => fwd_none
  | d + 1 => fwd_parse z d
/-- a number's text is one for int -/
theorem numS_int {p : Str} (h : numS p = true) : PySem.intText? p = some (numV p) ∧ p.length ≤ 6 := by
  unfold numS at h
  rw [Bool.and_eq_true, Bool.and_eq_true] at h
  obtain ⟨⟨h1, h2⟩, _⟩ := h
  obtain ⟨l1, l6⟩ := of_decide_eq_true h1
  refine ⟨PySem.intText_digits (x := p) ?_ ?_ (by omega), l6⟩
  · intro c hc
    unfold wrt at h2
    have := of_decide_eq_true (List.all_eq_true.mp h2 c hc)
    have e : cl figT = [48, 49, 50, 51, 52, 53, 54, 55, 56, 57] := by decide +kernel
    rw [e] at this
    simp at this
    omega
  · intro z
    have : p.cps.size = 0 := by have := congrArg List.length z; simpa using this
    have : p.length = 0 := this
    omega
end Car

set_option maxHeartbeats 1000000
namespace Car
open PySem L2
section
variable {P : Program} {w : World} {K : PySem.W.Frag} {mg : Str → Option Value} {base : Heap} {C CN f : Addr} {fd' : FuncData}
/-- what a reading comes to -/
noncomputable def Out (K : PySem.W.Frag) (C CN : Addr) (H : Hp) (x : Addr) (z : Str) (b : Nat) (Q : VK) (E : XK) : Rd1 → Prop
  | some (e, a1) => ∀ v H', Same (drop H x) (drop H' x) → ScAt C H' x z a1 b → Rp K (drop H' x) v e.dat → Q v H'
  | none => ∀ H', Same (drop H x) (drop H' x) → E (.ref CN) none H'
theorem Out.to {H H1 : Hp} {x : Addr} {z : Str} {b : Nat} {Q : VK} {E : XK} (s : Same (drop H x) (drop H1 x)) : ∀ {r : Rd1}, Out K C CN H x z b Q E r → Out K C CN H1 x z b Q E r
  | some (_, _), h => fun v H' s' => h v H' (s.trans s')
  | none, h => fun H' s' => h H' (s.trans s')
noncomputable def spPar (K : PySem.W.Frag) (C CN : Addr) (d : Nat) (p : Str → Nat → Rd1) : Sp := fun vs H Q E => ∃ x z a b, vs = [.ref x] ∧ ScAt C H x z a b ∧ b + d = 5 ∧ z.length ≤ 1000 ∧ (∀ c ∈ cl z, c < 16 ^ 8) ∧ Out K C CN H x z b Q E (p z a)
/-- NoRow, as it is raised -/
structure RowT (K : PySem.W.Frag) (mg : Str → Option Value) (base : Heap) (CN : Addr) : Prop where
  own : ∃ bm, PyProof.Rows.OwnCls "NoRow" CN bm "ValueError.__new__" mg base ∧ PySem.ExcBaseFacts "ValueError" "ValueError.__new__" "ValueError.__init__" bm
theorem star_some {z : Str} {k n : Nat} (h : z.length < n + k) {S : Str → Bool} (hS : S Str.empty = false) (c : S (sg z k) = true) : ∃ n', n = n' + 1 := by
  cases n with
  | zero =>
    rw [sg_none (show z.cps.size ≤ k by have : z.length = z.cps.size := rfl; omega), hS] at c
    cases c
  | succ n => exact ⟨n, rfl⟩
theorem drop_tup {H : Hp} {x t : Addr} {o : HO} {u : HO} (hx : H x = some u) (ht : H t = none) : drop (upd H t o) x = upd (drop H x) t o := drop_upd (fun e => by rw [e, hx] at ht; cases ht)
theorem drop_none {H : Hp} {x t : Addr} (ht : H t = none) : drop H x t = none := by
  by_cases e : t = x
  · rw [e, drop_same]
  · rw [drop_ne e]; exact ht
/-! take_factors -/
theorem scFactors : FnScope ["self", "told", "sign"] ["self"] (defScope sFactors) := ⟨rfl, rfl, rfl, by decide +kernel, rfl, by decide +kernel, by decide +kernel⟩
theorem ok_factors {d l : Nat} (hl : 2 ≤ l) (T : ScT K C) (MA : Mt P w K mg base C "sign_ahead" 1 ["self"] (spAhead C)) (MS : Mt P w K mg base C "take_sign" 2 ["self"] (spTakeS C))
    (MF : Mt P w K mg base C "take_factor" l ["self"] (spPar K C CN d fun z => fac z (inn z d))) (F : Fun K "take_factors" "Scan.take_factors" sFactors f fd') :
    FnOk P w K mg base (CX1 P w) (l + 1) f fd' ["self"] (spPar K C CN d fun z => row z (fac z (inn z d)) isStar) := by
  have nd := scFactors.nd
  refine F.ok1 scFactors (fun vs H Q E h => ?_) (fun cdv A outer s H vs Q E hr h => ?_)
  · obtain ⟨x, z, a, b, rfl, _⟩ := h
    rfl
  obtain ⟨x, z, a, b, rfl, hx, hb, hz, hc, q⟩ := h
  have hr1 : Room 1 _ := hr.mono (show 1 ≤ l by omega)
  have hr2 : Room 2 _ := hr.mono hl
  refine ⟨_, (pss_cons (ps_set (i := 1) nd rfl (Or.inl rfl) (pf_meth0 MF (pv 0) hr (pass1 (E := E))))
    (pss_cons (ps_while own1 (pt_cmpR op_eq (pf_meth0 MA (pv 0) hr1 (pass1 (E := E))) pe_str (nomark _)) (pss_cons (ps_set (i := 2) nd rfl (Or.inl rfl) (pf_meth0 MS (pv 0) hr2 (pass1 (E := E))))
    (pss_one (ps_set (i := 1) nd rfl (Or.inl rfl) (pe_tup (pa_cons (pv 2) (pa_cons (pv 1) (pa_cons (pf_meth0 MF (pv 0) hr (pass1 (E := E))) pa_nil))))))))
    (pss_one (ps_ret (pv 1))))), ?_⟩
  obtain ⟨dx, hx'⟩ := hx
  refine ⟨_, rfl, _, _, _, rfl, hx', rfl, x, z, a, b, rfl, ⟨dx, hx'⟩, hb, hz, hc, ?_⟩
  have q : Out K C CN H x z b Q E (row z (fac z (inn z d)) isStar a) := q
  show Out K C CN H x z b _ E (fac z (inn z d) a)
  have hf : ∀ {x : Addr} {H : Hp} {Q : VK} {k : Nat}, ScAt C H x z k b → Out K C CN H x z b Q E (fac z (inn z d) k) → spPar K C CN d (fun z => fac z (inn z d)) [.ref x] H Q E := fun {x H Q k} h1 h2 => ⟨x, z, k, b, rfl, h1, hb, hz, hc, h2⟩
  have fp : Fwd (fac z (inn z d)) := fwd_fac (fwd_inn z d)
  generalize fac z (inn z d) = p at q hf fp
  have hrow : row z p isStar a = match p a with | none => none | some (e, a1) => lp z p isStar (z.length + 1) e a1 := rfl
  cases h0 : p a with
  | none =>
    rw [hrow, h0] at q
    exact q
  | some r =>
    obtain ⟨e0, a0⟩ := r
    rw [hrow, h0] at q
    have q : Out K C CN H x z b Q E (lp z p isStar (z.length + 1) e0 a0) := q
    intro v0 H0 s0 hx0 r0
    generalize hres : lp z p isStar (z.length + 1) e0 a0 = res at q
    refine ⟨fun m σ H1 => ∃ (e : Ex) (k : Nat) (o : Option V) (v : V), σ = [some (.ref x), some v, o] ∧ z.length < m + k ∧ Same (drop H x) (drop H1 x) ∧ ScAt C H1 x z k b ∧ Rp K (drop H1 x) v e.dat ∧ lp z p isStar m e k = res, ⟨_, e0, a0, none, v0, rfl, by omega, s0, hx0, r0, hres⟩, ?_⟩
    rintro m σ H1 ⟨e, k, o, v, rfl, hm, s1, hx1, rv, hlp⟩
    obtain ⟨dx1, hx1'⟩ := id hx1
    refine ⟨_, rfl, _, _, _, rfl, hx1', rfl, x, z, k, b, rfl, hx1, hz, rfl, _, rfl, ?_⟩
    rw [decS]
    refine ite2 (fun c => ?_) (fun c => ?_)
    · obtain ⟨m, rfl⟩ := star_some hm (S := isStar) (by decide +kernel) c
      have hlp' : (if isStar (sg z k) = true then match p (k + 1) with | none => none | some (f, a1) => lp z p isStar m (.bin (sg z k) e f) a1 else some (e, k)) = res := hlp
      rw [if_pos (show isStar (sg z k) = true from c)] at hlp'
      refine ⟨fun σ H2 => ∃ (e : Ex) (k : Nat) (o : Option V) (v : V), σ = [some (.ref x), some v, o] ∧ z.length < m + k ∧ Same (drop H x) (drop H2 x) ∧ ScAt C H2 x z k b ∧ Rp K (drop H2 x) v e.dat ∧ lp z p isStar m e k = res, fun σ' H2 h => ⟨m, by omega, h⟩, ?_⟩
      refine ⟨_, rfl, _, _, _, rfl, hx1', rfl, x, z, k, b, rfl, hx1, hz, fun H2 s2 hx2 => ?_⟩
      obtain ⟨dx2, hx2'⟩ := id hx2
      refine ⟨_, rfl, _, rfl, _, rfl, _, _, _, rfl, hx2', rfl, hf hx2 ?_⟩
      cases h1 : p (k + 1) with
      | none =>
        rw [h1] at hlp'
        subst hlp'
        exact q.to (s1.trans s2)
      | some r =>
        obtain ⟨f1, k1⟩ := r
        rw [h1] at hlp'
        have hk1 := fp _ _ _ h1
        intro v1 H3 s3 hx3 r1
        obtain ⟨dx3, hx3'⟩ := id hx3
        refine ⟨le3, fun t ht => ?_⟩
        have et := drop_tup (o := .tup [V.str (sg z k), v, v1]) hx3' ht
        have u := same_upd (drop_none (x := x) ht) (.tup [V.str (sg z k), v, v1])
        refine ⟨.bin (sg z k) e f1, k1, _, _, rfl, by omega, ?_, ⟨dx3, same_upd ht _ _ _ hx3'⟩, ?_, hlp'⟩
        · rw [et]
          exact s1.trans (s2.trans (s3.trans u))
        · rw [et]
          exact .tup (SqT.of upd_same) (.cons (.str _) (.cons (rv.same (s2.trans (s3.trans u))) (.cons (r1.same u) .nil)))
    · have hlp' : res = some (e, k) := by
        cases m with
        | zero => exact hlp.symm
        | succ m =>
          have h2 : (if isStar (sg z k) = true then match p (k + 1) with | none => none | some (f, a1) => lp z p isStar m (.bin (sg z k) e f) a1 else some (e, k)) = res := hlp
          rw [if_neg (show ¬ isStar (sg z k) = true from c)] at h2
          exact h2.symm
      subst hlp'
      exact ⟨_, rfl, q v H1 s1 hx1 rv⟩
end
end Car

set_option maxHeartbeats 1000000
namespace Car
open PySem L2
theorem in_sum (x : Str) : inV (.str x) [V.str "+", .str "-"] = isSum x := by
  unfold inV isSum
  simp [List.any, eqV, Bool.beq_eq_decide_eq]
  exact congr (congrArg _ (decide_eq_decide.mpr eq_comm)) (decide_eq_decide.mpr eq_comm)
section
variable {P : Program} {w : World} {K : PySem.W.Frag} {mg : Str → Option Value} {base : Heap} {C CN f : Addr} {fd' : FuncData}
/-! take_terms -/
theorem scTerms : FnScope ["self", "told", "sign"] ["self"] (defScope sTerms) := ⟨rfl, rfl, rfl, by decide +kernel, rfl, by decide +kernel, by decide +kernel⟩
theorem ok_terms {d l : Nat} (hl : 2 ≤ l) (T : ScT K C) (MA : Mt P w K mg base C "sign_ahead" 1 ["self"] (spAhead C)) (MS : Mt P w K mg base C "take_sign" 2 ["self"] (spTakeS C))
    (MF : Mt P w K mg base C "take_factors" l ["self"] (spPar K C CN d fun z => row z (fac z (inn z d)) isStar)) (F : Fun K "take_terms" "Scan.take_terms" sTerms f fd') :
    FnOk P w K mg base (CX1 P w) (l + 1) f fd' ["self"] (spPar K C CN d fun z => row z (row z (fac z (inn z d)) isStar) isSum) := by
  have nd := scTerms.nd
  refine F.ok1 scTerms (fun vs H Q E h => ?_) (fun cdv A outer s H vs Q E hr h => ?_)
  · obtain ⟨x, z, a, b, rfl, _⟩ := h
    rfl
  obtain ⟨x, z, a, b, rfl, hx, hb, hz, hc, q⟩ := h
  have hr1 : Room 1 _ := hr.mono (show 1 ≤ l by omega)
  have hr2 : Room 2 _ := hr.mono hl
  refine ⟨_, (pss_cons (ps_set (i := 1) nd rfl (Or.inl rfl) (pf_meth0 MF (pv 0) hr (pass1 (E := E))))
    (pss_cons (ps_while own1 (pt_cmpR op_in_seq (pf_meth0 MA (pv 0) hr1 (pass1 (E := E))) (pe_tup (pa_cons pe_str (pa_cons pe_str pa_nil))) (by with_unfolding_all rfl)) (pss_cons (ps_set (i := 2) nd rfl (Or.inl rfl) (pf_meth0 MS (pv 0) hr2 (pass1 (E := E))))
    (pss_one (ps_set (i := 1) nd rfl (Or.inl rfl) (pe_tup (pa_cons (pv 2) (pa_cons (pv 1) (pa_cons (pf_meth0 MF (pv 0) hr (pass1 (E := E))) pa_nil))))))))
    (pss_one (ps_ret (pv 1))))), ?_⟩
  obtain ⟨dx, hx'⟩ := hx
  refine ⟨_, rfl, _, _, _, rfl, hx', rfl, x, z, a, b, rfl, ⟨dx, hx'⟩, hb, hz, hc, ?_⟩
  have q : Out K C CN H x z b Q E (row z (row z (fac z (inn z d)) isStar) isSum a) := q
  show Out K C CN H x z b _ E (row z (fac z (inn z d)) isStar a)
  have hf : ∀ {x : Addr} {H : Hp} {Q : VK} {k : Nat}, ScAt C H x z k b → Out K C CN H x z b Q E (row z (fac z (inn z d)) isStar k) → spPar K C CN d (fun z => row z (fac z (inn z d)) isStar) [.ref x] H Q E := fun {x H Q k} h1 h2 => ⟨x, z, k, b, rfl, h1, hb, hz, hc, h2⟩
  have fp : Fwd (row z (fac z (inn z d)) isStar) := fwd_row (fwd_fac (fwd_inn z d))
  generalize row z (fac z (inn z d)) isStar = p at q hf fp
  have hrow : row z p isSum a = match p a with | none => none | some (e, a1) => lp z p isSum (z.length + 1) e a1 := rfl
  cases h0 : p a with
  | none =>
    rw [hrow, h0] at q
    exact q
  | some r =>
    obtain ⟨e0, a0⟩ := r
    rw [hrow, h0] at q
    have q : Out K C CN H x z b Q E (lp z p isSum (z.length + 1) e0 a0) := q
    intro v0 H0 s0 hx0 r0
    generalize hres : lp z p isSum (z.length + 1) e0 a0 = res at q
    refine ⟨fun m σ H1 => ∃ (e : Ex) (k : Nat) (o : Option V) (v : V), σ = [some (.ref x), some v, o] ∧ z.length < m + k ∧ Same (drop H x) (drop H1 x) ∧ ScAt C H1 x z k b ∧ Rp K (drop H1 x) v e.dat ∧ lp z p isSum m e k = res, ⟨_, e0, a0, none, v0, rfl, by omega, s0, hx0, r0, hres⟩, ?_⟩
    rintro m σ H1 ⟨e, k, o, v, rfl, hm, s1, hx1, rv, hlp⟩
    obtain ⟨dx1, hx1'⟩ := id hx1
    refine ⟨_, rfl, _, _, _, rfl, hx1', rfl, x, z, k, b, rfl, hx1, hz, le2, fun t0 ht0 => ⟨t0, _, rfl, .inr (SqT.of upd_same), rfl, rfl, _, rfl, ?_⟩⟩
    rw [show (if false = true then !inV (.str (sg z k)) [V.str "+", .str "-"] else inV (.str (sg z k)) [V.str "+", .str "-"]) = isSum (sg z k) from in_sum _]
    have et0 := drop_tup (o := .tup [V.str "+", .str "-"]) hx1' ht0
    have u0 := same_upd (drop_none (x := x) ht0) (.tup [V.str "+", .str "-"])
    rw [← et0] at u0
    have hx1 : ScAt C (upd H1 t0 (.tup [V.str "+", .str "-"])) x z k b := ⟨dx1, same_upd ht0 _ _ _ hx1'⟩
    have hx1' := same_upd ht0 (.tup [V.str "+", .str "-"]) _ _ hx1'
    have s1 := s1.trans u0
    have rv := rv.same u0
    generalize upd H1 t0 (.tup [V.str "+", .str "-"]) = H1 at hx1 hx1' s1 rv
    refine ite2 (fun c => ?_) (fun c => ?_)
    · obtain ⟨m, rfl⟩ := star_some hm (S := isSum) (by decide +kernel) c
      have hlp' : (if isSum (sg z k) = true then match p (k + 1) with | none => none | some (f, a1) => lp z p isSum m (.bin (sg z k) e f) a1 else some (e, k)) = res := hlp
      rw [if_pos (show isSum (sg z k) = true from c)] at hlp'
      refine ⟨fun σ H2 => ∃ (e : Ex) (k : Nat) (o : Option V) (v : V), σ = [some (.ref x), some v, o] ∧ z.length < m + k ∧ Same (drop H x) (drop H2 x) ∧ ScAt C H2 x z k b ∧ Rp K (drop H2 x) v e.dat ∧ lp z p isSum m e k = res, fun σ' H2 h => ⟨m, by omega, h⟩, ?_⟩
      refine ⟨_, rfl, _, _, _, rfl, hx1', rfl, x, z, k, b, rfl, hx1, hz, fun H2 s2 hx2 => ?_⟩
      obtain ⟨dx2, hx2'⟩ := id hx2
      refine ⟨_, rfl, _, rfl, _, rfl, _, _, _, rfl, hx2', rfl, hf hx2 ?_⟩
      cases h1 : p (k + 1) with
      | none =>
        rw [h1] at hlp'
        subst hlp'
        exact q.to (s1.trans s2)
      | some r =>
        obtain ⟨f1, k1⟩ := r
        rw [h1] at hlp'
        have hk1 := fp _ _ _ h1
        intro v1 H3 s3 hx3 r1
        obtain ⟨dx3, hx3'⟩ := id hx3
        refine ⟨le3, fun t ht => ?_⟩
        have et := drop_tup (o := .tup [V.str (sg z k), v, v1]) hx3' ht
        have u := same_upd (drop_none (x := x) ht) (.tup [V.str (sg z k), v, v1])
        refine ⟨.bin (sg z k) e f1, k1, _, _, rfl, by omega, ?_, ⟨dx3, same_upd ht _ _ _ hx3'⟩, ?_, hlp'⟩
        · rw [et]
          exact s1.trans (s2.trans (s3.trans u))
        · rw [et]
          exact .tup (SqT.of upd_same) (.cons (.str _) (.cons (rv.same (s2.trans (s3.trans u))) (.cons (r1.same u) .nil)))
    · have hlp' : res = some (e, k) := by
        cases m with
        | zero => exact hlp.symm
        | succ m =>
          have h2 : (if isSum (sg z k) = true then match p (k + 1) with | none => none | some (f, a1) => lp z p isSum m (.bin (sg z k) e f) a1 else some (e, k)) = res := hlp
          rw [if_neg (show ¬ isSum (sg z k) = true from c)] at h2
          exact h2.symm
      subst hlp'
      exact ⟨_, rfl, q v H1 s1 hx1 rv⟩
end
end Car

set_option maxHeartbeats 1000000
namespace Car
open PySem L2
theorem slice_mem {z : Str} {l u : Option Int} {c : Nat} (h : c ∈ cl (Txt.slice z l u)) : c ∈ cl z := by
  unfold Txt.slice at h
  split at h
  · exact h
  · obtain ⟨i, _, e⟩ := List.mem_filterMap.mp (by simpa using h)
    exact Array.mem_toList_iff.mpr (Array.mem_of_getElem? e)
section
variable {P : Program} {w : World} {K : PySem.W.Frag} {mg : Str → Option Value} {base : Heap} {C CN f : Addr} {fd' : FuncData}
/-! take_brackets -/
theorem scBrackets : FnScope ["self", "told"] ["self"] (defScope sBrackets) := ⟨rfl, rfl, rfl, by decide +kernel, rfl, by decide +kernel, by decide +kernel⟩
noncomputable def spInn (K : PySem.W.Frag) (C CN : Addr) (d : Nat) : Sp := fun vs H Q E => ∃ d', d' + 1 = d ∧ spPar K C CN d' (fun z => parse z d') vs H Q E
theorem ok_brackets {d l : Nat} (hl : 2 ≤ l) (W : WdT K mg) (R : RowT K mg base CN) (T : ScT K C) (MS : Mt P w K mg base C "take_sign" 2 ["self"] (spTakeS C)) (MT : Mt P w K mg base C "take_terms" l ["self"] (spInn K C CN d)) (F : Fun K "take_brackets" "Scan.take_brackets" sBrackets f fd') :
    FnOk P w K mg base (CX1 P w) (l + 1) f fd' ["self"] (spPar K C CN d fun z => brk z (inn z d)) := by
  have nd := scBrackets.nd
  refine F.ok1 scBrackets (fun vs H Q E h => ?_) (fun cdv A outer s H vs Q E hr h => ?_)
  · obtain ⟨x, z, a, b, rfl, _⟩ := h
    rfl
  obtain ⟨x, z, a, b, rfl, hx, hb, hz, hc, q⟩ := h
  have q : Out K C CN H x z b Q E (brk z (inn z d) a) := q
  have hr2 : Room 2 _ := hr.mono hl
  obtain ⟨bm, O, FB⟩ := R.own
  obtain ⟨t1, g1⟩ := W.mb
  refine ⟨_, (pss_cons (ps_if (pt_cmpR op_eq (pe_fld (pv 0) rfl) (pe_glob (v := .int 5) rfl g1 ⟨_, rfl⟩) (nomark _)) (pss_one (ps_raise O FB rfl rfl raises1 (pa_cons pe_str pa_nil))) pss_nil)
    (pss_cons (ps_fldaug (pv 0) pe_int in_add)
    (pss_cons (ps_expr (pf_meth0 MS (pv 0) hr2 (pass1 (E := E))))
    (pss_cons (ps_set (i := 1) nd rfl (Or.inl rfl) (pf_meth0 MT (pv 0) hr (pass1 (E := E))))
    (pss_cons (ps_if (pt_cmpR op_ne (pf_meth0 MS (pv 0) hr2 (pass1 (E := E))) pe_str (nomark _)) (pss_one (ps_raise O FB rfl rfl raises1 (pa_cons pe_str pa_nil))) pss_nil)
    (pss_cons (ps_fldaug (pv 0) pe_int in_sub)
    (pss_one (ps_ret (pv 1))))))))), ?_⟩
  obtain ⟨dx, hx'⟩ := hx
  refine ⟨_, rfl, _, _, _, _, _, rfl, hx', T.cl, T.nBr, rfl, rfl, _, rfl, ?_⟩
  have e5 : decide (V.int (b : Int) = V.int 5) = decide (d = 0) := by
    by_cases h : d = 0
    · rw [decide_eq_true h, decide_eq_true (by rw [show b = 5 by omega]; rfl)]
    · rw [decide_eq_false h, decide_eq_false (fun e => h (by injection e with e; omega))]
  rw [e5]
  refine ite2 (fun c => ?_) (fun c => ?_)
  · have c' : d = 0 := of_decide_eq_true c
    subst c'
    exact ⟨le1, q H (Same.refl _)⟩
  have c' : ¬ d = 0 := fun e => c (decide_eq_true e)
  obtain ⟨d, rfl⟩ : ∃ d', d = d' + 1 := ⟨d - 1, by omega⟩
  refine ⟨_, rfl, _, _, _, _, _, rfl, hx', T.cl, T.nBr, rfl, _, _, rfl, rfl, _, _, hx', (by show 3 < 1000; decide), ?_⟩
  have s1 : Same (drop H x) (drop (upd H x (.ins C dx (putF "brackets" (.int ((b : Int) + 1)) (fsS z a b)))) x) := same_dropU
  have hx1 : upd H x (.ins C dx (putF "brackets" (.int ((b : Int) + 1)) (fsS z a b))) x = some (.ins C dx (fsS z a (b + 1))) := upd_same
  generalize upd H x (.ins C dx (putF "brackets" (.int ((b : Int) + 1)) (fsS z a b))) = H1 at s1 hx1
  refine ⟨_, rfl, _, _, _, rfl, hx1, rfl, x, z, a, b + 1, rfl, ⟨dx, hx1⟩, hz, fun H2 s2 hx2 => ?_⟩
  obtain ⟨dx2, hx2'⟩ := id hx2
  refine ⟨_, rfl, _, _, _, rfl, hx2', rfl, d, rfl, x, z, a + 1, b + 1, rfl, hx2, (by omega), hz, hc, ?_⟩
  have hbrk : brk z (inn z (d + 1)) a = match parse z d (a + 1) with | none => none | some (e, a1) => if sg z a1 = ")" then some (e, a1 + 1) else none := rfl
  rw [hbrk] at q
  show Out K C CN H2 x z (b + 1) _ E (parse z d (a + 1))
  cases hp : parse z d (a + 1) with
  | none =>
    rw [hp] at q
    exact fun H' s' => q H' (s1.trans (s2.trans s'))
  | some r =>
    obtain ⟨e, a1⟩ := r
    rw [hp] at q
    have q : Out K C CN H x z b Q E (if sg z a1 = ")" then some (e, a1 + 1) else none) := q
    intro v H3 s3 hx3 rv
    obtain ⟨dx3, hx3'⟩ := id hx3
    refine ⟨_, rfl, _, _, _, rfl, hx3', rfl, x, z, a1, b + 1, rfl, hx3, hz, fun H4 s4 hx4 => ⟨rfl, _, rfl, ?_⟩⟩
    rw [decS]
    obtain ⟨dx4, hx4'⟩ := id hx4
    by_cases c2 : sg z a1 = ")"
    · rw [if_pos c2] at q
      rw [decide_eq_true c2]
      refine iteF ⟨_, rfl, _, _, _, _, _, rfl, hx4', T.cl, T.nBr, rfl, _, _, rfl, rfl, _, _, hx4', (by show 3 < 1000; decide), ?_⟩
      refine ⟨_, rfl, q v _ (s1.trans (s2.trans (s3.trans (s4.trans same_dropU)))) ⟨dx4, ?_⟩ (rv.same (s4.trans same_dropU))⟩
      rw [upd_same]
      show some (HO.ins C dx4 [("word", .str z), ("at", .int ((a1 + 1 : Nat) : Int)), ("brackets", .int (((b + 1 : Nat) : Int) - 1))]) = some (HO.ins C dx4 (fsS z (a1 + 1) b))
      rw [show (((b + 1 : Nat) : Int) - 1) = (b : Int) by omega]
      rfl
    · rw [if_neg c2] at q
      rw [decide_eq_false c2]
      exact iteT ⟨le1, q H4 (s1.trans (s2.trans (s3.trans s4)))⟩
/-! take_factor -/
theorem scFactor : FnScope ["self", "piece"] ["self"] (defScope sFactor) := ⟨rfl, rfl, rfl, by decide +kernel, rfl, by decide +kernel, by decide +kernel⟩
theorem ok_factor {d l : Nat} (hl : 2 ≤ l) (TT : LawT mg) (R : RowT K mg base CN) (T : ScT K C) (MA : Mt P w K mg base C "sign_ahead" 1 ["self"] (spAhead C)) (MP : Mt P w K mg base C "take_piece" 2 ["self"] (spPiece C)) (MB : Mt P w K mg base C "take_brackets" l ["self"] (spPar K C CN d fun z => brk z (inn z d)))
    (FU : Fn P w K mg base "is_number" 2 ["word"] spNumber) (FN : Fn P w K mg base "is_name" 2 ["word"] spName) (F : Fun K "take_factor" "Scan.take_factor" sFactor f fd') :
    FnOk P w K mg base (CX1 P w) (l + 1) f fd' ["self"] (spPar K C CN d fun z => fac z (inn z d)) := by
  have nd := scFactor.nd
  refine F.ok1 scFactor (fun vs H Q E h => ?_) (fun cdv A outer s H vs Q E hr h => ?_)
  · obtain ⟨x, z, a, b, rfl, _⟩ := h
    rfl
  obtain ⟨x, z, a, b, rfl, hx, hb, hz, hc, q⟩ := h
  have q : Out K C CN H x z b Q E (if sg z a = "(" then brk z (inn z d) a else leaf z a) := q
  have hr1 : Room 1 _ := hr.mono (show 1 ≤ l by omega)
  have hr2 : Room 2 _ := hr.mono hl
  obtain ⟨bm, O, FB⟩ := R.own
  refine ⟨_, (pss_cons (ps_if (pt_cmpR op_eq (pf_meth0 MA (pv 0) hr1 (pass1 (E := E))) pe_str (nomark _)) (pss_one (ps_ret (pf_meth0 MB (pv 0) hr (pass1 (E := E))))) pss_nil)
    (pss_cons (ps_set (i := 1) nd rfl (Or.inl rfl) (pf_meth0 MP (pv 0) hr2 (pass1 (E := E))))
    (pss_cons (ps_if (pt_truth (pf_call FU hr2 rfl (pass1 (E := E)) (pa_cons (pv 1) pa_nil)) (fun _ => rfl)) (pss_one (ps_ret (pe_tup (pa_cons pe_str (pa_cons (pe_callTy call_intS rfl TT.int bt_int (pa_cons (pv 1) pa_nil)) pa_nil))))) pss_nil)
    (pss_cons (ps_if (pt_truth (pf_call FN hr2 rfl (pass1 (E := E)) (pa_cons (pv 1) pa_nil)) (fun _ => rfl)) (pss_one (ps_ret (pe_tup (pa_cons pe_str (pa_cons (pv 1) pa_nil))))) pss_nil)
    (pss_one (ps_raise O FB rfl rfl raises1 (pa_cons (pe_fsR (pv 1) (by decide +kernel)) pa_nil))))))), ?_⟩
  obtain ⟨dx, hx'⟩ := id hx
  refine ⟨_, rfl, _, _, _, rfl, hx', rfl, x, z, a, b, rfl, hx, hz, rfl, _, rfl, ?_⟩
  rw [decS]
  refine ite2 (fun c => ?_) (fun c => ?_)
  · rw [if_pos (of_decide_eq_true c)] at q
    exact ⟨_, rfl, _, _, _, rfl, hx', rfl, x, z, a, b, rfl, hx, hb, hz, hc, q⟩
  rw [if_neg (fun e => c (decide_eq_true e))] at q
  refine ⟨_, rfl, _, _, _, rfl, hx', rfl, x, z, a, b, rfl, hx, hz, fun H1 s1 hx1 => ?_⟩
  have pl : (piece z a).length ≤ 1000 := Nat.le_trans (Txt.slice_le z _ _) hz
  have pc : ∀ c ∈ cl (piece z a), c < 16 ^ 8 := fun c hm => hc c (slice_mem hm)
  have tup : ∀ {G : Hp} {e : Ex} {vs : List V} {ds : List PyData}, e.dat = .tuple ds → Same H1 G → leaf z a = some (e, pE z a) → (∀ H', Rps K H' vs ds) → ∀ t, G t = none → Q (.ref t) (upd G t (.tup vs)) := fun {G e vs ds} he sG hlf hv t ht => by
    rw [hlf] at q
    obtain ⟨dx1, hx1'⟩ := id hx1
    have hxG := sG _ _ hx1'
    have et := drop_tup (o := .tup vs) hxG ht
    have u := same_upd (drop_none (x := x) ht) (.tup vs)
    refine q (.ref t) _ ?_ ⟨dx1, same_upd ht _ _ _ hxG⟩ ?_
    · rw [et]
      exact s1.trans ((sG.drop x).trans u)
    · rw [et, he]
      exact .tup (SqT.of upd_same) (hv _)
  refine ⟨_, rfl, piece z a, rfl, pl, fun H2 s2 => ⟨_, rfl, ?_⟩⟩
  refine ite2 (fun c1 => ?_) (fun c1 => ?_)
  · obtain ⟨hi, hl6⟩ := numS_int c1
    refine ⟨_, rfl, piece z a, numV (piece z a), rfl, hi, (by omega), le2, fun t ht => ?_⟩
    exact tup (e := .num (numV (piece z a))) rfl s2 (by unfold leaf; rw [if_pos c1]) (fun _ => .cons (.str _) (.cons (.int _) .nil)) t ht
  refine ⟨_, rfl, piece z a, rfl, pl, fun H3 s3 => ⟨_, rfl, ?_⟩⟩
  refine ite2 (fun c2 => ?_) (fun c2 => ?_)
  · refine ⟨_, rfl, le2, fun t ht => ?_⟩
    exact tup (e := .nam (piece z a)) rfl (s2.trans s3) (by unfold leaf; rw [if_neg c1, if_pos c2]) (fun _ => .cons (.str _) (.cons (.str _) .nil)) t ht
  · refine ⟨_, rfl, piece z a, rfl, pl, pc, fun y => ⟨le1, ?_⟩⟩
    have : leaf z a = none := by unfold leaf; rw [if_neg c1, if_neg c2]
    rw [this] at q
    exact q H3 (s1.trans ((s2.trans s3).drop x))
end
end Car

set_option maxHeartbeats 1000000
namespace Car
open PySem L2
section
variable {P : Program} {w : World} {K : PySem.W.Frag} {mg : Str → Option Value} {base : Heap} {C CN f : Addr} {fd' : FuncData}
/-- a method of the text -/
structure MeT (K : PySem.W.Frag) (C : Addr) (m q : Str) (st : Stmt) (f : Addr) (fd : FuncData) : Prop where
  fn : Fun K m q st f fd
  mt : Meth K C m f
  bi : Binds K fd ["self"] []
theorem MeT.of {m q : Str} {st : Stmt} {fd : FuncData} {k : Nat} {sp : Sp} (M : MeT K C m q st f fd) (c : Cls K C) (ok : FnOk P w K mg base (CX1 P w) k f fd ["self"] sp) : Mt P w K mg base C m k ["self"] sp := ⟨f, fd, ok, M.mt, c, M.bi⟩
/-- by induction over the brackets -/
theorem ok_par {fB fF fS fT : Addr} {dB dF dS dT : FuncData} (TT : LawT mg) (W : WdT K mg) (R : RowT K mg base CN) (T : ScT K C)
    (MA : Mt P w K mg base C "sign_ahead" 1 ["self"] (spAhead C)) (MS : Mt P w K mg base C "take_sign" 2 ["self"] (spTakeS C)) (MP : Mt P w K mg base C "take_piece" 2 ["self"] (spPiece C))
    (FU : Fn P w K mg base "is_number" 2 ["word"] spNumber) (FN : Fn P w K mg base "is_name" 2 ["word"] spName)
    (mB : MeT K C "take_brackets" "Scan.take_brackets" sBrackets fB dB) (mF : MeT K C "take_factor" "Scan.take_factor" sFactor fF dF) (mS : MeT K C "take_factors" "Scan.take_factors" sFactors fS dS) (mT : MeT K C "take_terms" "Scan.take_terms" sTerms fT dT) :
    ∀ d, Mt P w K mg base C "take_terms" (4 * d + 6) ["self"] (spPar K C CN d fun z => parse z d) := by
  have step : ∀ (d l : Nat), 2 ≤ l → Mt P w K mg base C "take_terms" l ["self"] (spInn K C CN d) → FnOk P w K mg base (CX1 P w) (l + 4) fT dT ["self"] (spPar K C CN d fun z => parse z d) := fun d l hl MT => by
    have M1 := mB.of T.cl (ok_brackets hl W R T MS MT mB.fn)
    have M2 := mF.of T.cl (ok_factor (show 2 ≤ l + 1 by omega) TT R T MA MP M1 FU FN mF.fn)
    have M3 := mS.of T.cl (ok_factors (show 2 ≤ l + 2 by omega) T MA MS M2 mS.fn)
    have ok := ok_terms (show 2 ≤ l + 3 by omega) T MA MS M3 mT.fn
    have e : (fun z => parse z d) = fun z => row z (row z (fac z (inn z d)) isStar) isSum := by
      funext z
      rw [parse_inn]
      rfl
    rw [e]
    exact ok
  intro d
  induction d with
  | zero =>
    refine mT.of T.cl (step 0 2 (Nat.le_refl _) (mT.of T.cl ⟨fun vs H Q E ⟨d', e, _⟩ => absurd e (by omega), fun _ _ _ _ _ _ _ _ _ _ _ _ _ ⟨d', e, _⟩ => absurd e (by omega)⟩))
  | succ d ih =>
    obtain ⟨f0, fd0, ok0, mt0, cl0, bi0⟩ := ih.ex
    have := step (d + 1) (4 * d + 6) (by omega) ⟨f0, fd0, ok0.imp fun vs H Q E ⟨d', e, h⟩ => (by have z : d' = d := (by omega); subst z; exact h), mt0, cl0, bi0⟩
    rw [show 4 * (d + 1) + 6 = 4 * d + 6 + 4 by omega]
    exact mT.of T.cl this
/-! ### expression -/
noncomputable def exprD (z : Str) : Option Ex := if 60 < z.length then none else match parse z 5 0 with
  | none => none
  | some (e, a) => if a < z.length then none else some e
noncomputable def spExpr (K : PySem.W.Frag) (CN : Addr) : Sp := fun vs H Q E => ∃ z : Str, vs = [.str z] ∧ z.length ≤ 1000 ∧ (∀ c ∈ cl z, c < 16 ^ 8) ∧ match exprD z with
  | some e => ∀ v H', Same H H' → Rp K H' v e.dat → Q v H'
  | none => ∀ H', Same H H' → E (.ref CN) none H'
theorem scExpr : FnScope ["word", "scan", "told"] ["word"] (defScope sExpr) := ⟨rfl, rfl, rfl, by decide +kernel, rfl, by decide +kernel, by decide +kernel⟩
theorem ok_expr (TT : LawT mg) (W : WdT K mg) (R : RowT K mg base CN) (T : ScT K C) (MI : Mc P w K mg base "Scan" C 1 ["self", "word"] (spScanI C)) (MT : Mt P w K mg base C "take_terms" 26 ["self"] (spPar K C CN 5 fun z => parse z 5)) (F : Fun K "expression" "expression" sExpr f fd') :
    FnOk P w K mg base (CX1 P w) 27 f fd' ["word"] (spExpr K CN) := by
  have nd := scExpr.nd
  refine F.ok1 scExpr (fun vs H Q E h => ?_) (fun cdv A outer s H vs Q E hr h => ?_)
  · obtain ⟨z, rfl, _⟩ := h
    rfl
  obtain ⟨z, rfl, hz, hc, q⟩ := h
  have hr2 : Room 2 _ := hr.mono (by decide)
  have hz' : z.length ≤ sizeLine := Nat.le_of_lt (line3 hz (by decide))
  obtain ⟨bm, O, FB⟩ := R.own
  obtain ⟨t1, g1⟩ := W.ms
  refine ⟨_, (pss_cons (ps_if (pt_cmpR op_gt (pe_callB call_len_str rfl TT.len PySem.boot_len (pa_cons (pv 0) pa_nil)) (pe_glob (v := .int 60) rfl g1 ⟨_, rfl⟩) (nomark _)) (pss_one (ps_raise O FB rfl rfl raises1 (pa_cons pe_str pa_nil))) pss_nil)
    (pss_cons (ps_set (i := 1) nd rfl (Or.inl rfl) (pf_make MI hr2 rfl (pass1 (E := E)) (pa_cons (pv 0) pa_nil)))
    (pss_cons (ps_set (i := 2) nd rfl (Or.inl rfl) (pf_meth0 MT (pv 1) hr (pass1 (E := E))))
    (pss_cons (ps_if (pt_cmpR op_lt (pe_fld (pv 1) rfl) (pe_callB call_len_str rfl TT.len PySem.boot_len (pa_cons (pv 0) pa_nil)) (nomark _)) (pss_one (ps_raise O FB rfl rfl raises1 (pa_cons (pe_fsR (pv 0) (by decide +kernel)) pa_nil))) pss_nil)
    (pss_one (ps_ret (pv 2))))))), ?_⟩
  refine ⟨_, rfl, z, rfl, hz', _, _, rfl, rfl, _, rfl, ?_⟩
  refine ite2 (fun c => ?_) (fun c => ?_)
  · have c' : 60 < z.length := by have : (60 : Int) < (z.length : Int) := of_decide_eq_true c; omega
    have e : exprD z = none := if_pos c'
    rw [e] at q
    exact ⟨le1, q H (Same.refl _)⟩
  have c' : ¬ 60 < z.length := fun h => c (decide_eq_true (by show (60 : Int) < (z.length : Int); omega))
  have e : exprD z = match parse z 5 0 with | none => none | some (e, a) => if a < z.length then none else some e := if_neg c'
  rw [e] at q
  refine ⟨_, rfl, fun x dx hx hdx hne => ?_⟩
  refine ⟨x, dx, z, rfl, upd_same, rfl, ?_⟩
  rw [upd_upd]
  have s1 : Same H (upd (upd H dx (.own x)) x (.ins C dx (fsS z 0 0))) := (same_upd hdx _).trans (same_upd (by rw [upd_ne (Ne.symm hne)]; exact hx) _)
  have hx1 : upd (upd H dx (.own x)) x (.ins C dx (fsS z 0 0)) x = some (.ins C dx (fsS z 0 0)) := upd_same
  generalize upd (upd H dx (.own x)) x (.ins C dx (fsS z 0 0)) = H1 at s1 hx1
  have back : ∀ {G : Hp}, Same (drop H1 x) (drop G x) → Same H G := fun {G} s => fun b o e => by
    have hb : b ≠ x := fun z => by rw [z, hx] at e; cases e
    have := s b o (by rw [drop_ne hb]; exact s1 _ _ e)
    rw [drop_ne hb] at this
    exact this
  refine ⟨_, rfl, _, _, _, rfl, hx1, rfl, x, z, 0, 0, rfl, ⟨dx, hx1⟩, rfl, hz, hc, ?_⟩
  show Out K C CN H1 x z 0 _ E (parse z 5 0)
  cases hp : parse z 5 0 with
  | none =>
    rw [hp] at q
    exact fun H' s' => q H' (back s')
  | some r =>
    obtain ⟨ex, a⟩ := r
    rw [hp] at q
    intro v H2 s2 hx2 rv
    obtain ⟨dx2, hx2'⟩ := hx2
    refine ⟨_, rfl, _, _, _, _, _, rfl, hx2', T.cl, T.nAt, rfl, _, rfl, z, rfl, hz', _, _, rfl, rfl, _, rfl, ?_⟩
    by_cases c2 : a < z.length
    · have q : ∀ H', Same H H' → E (.ref CN) none H' := by
        have q' : (match (if a < z.length then none else some ex) with | some e => ∀ v H', Same H H' → Rp K H' v e.dat → Q v H' | none => ∀ H', Same H H' → E (.ref CN) none H') := q
        rw [if_pos c2] at q'
        exact q'
      rw [decide_eq_true (show (a : Int) < (z.length : Int) by omega)]
      exact iteT ⟨_, rfl, z, rfl, hz, hc, fun y => ⟨le1, q H2 (back s2)⟩⟩
    · have q : ∀ v H', Same H H' → Rp K H' v ex.dat → Q v H' := by
        have q' : (match (if a < z.length then none else some ex) with | some e => ∀ v H', Same H H' → Rp K H' v e.dat → Q v H' | none => ∀ H', Same H H' → E (.ref CN) none H') := q
        rw [if_neg c2] at q'
        exact q'
      rw [decide_eq_false (show ¬ (a : Int) < (z.length : Int) by omega)]
      exact iteF ⟨_, rfl, q v H2 (back s2) (rv.same drop_le)⟩
end
end Car

set_option maxHeartbeats 1000000
namespace Car
open PySem L2
noncomputable abbrev sLen : Stmt := top 32
noncomputable abbrev sNameOf : Stmt := top 33
noncomputable abbrev sHold : Stmt := top 34
noncomputable abbrev sMove : Stmt := top 35
noncomputable abbrev sLet : Stmt := top 36
noncomputable abbrev sCall : Stmt := top 37
noncomputable abbrev sTimes : Stmt := top 38
noncomputable abbrev sIf : Stmt := top 39
noncomputable abbrev sBare : Stmt := top 40
noncomputable abbrev sSub : Stmt := top 41
noncomputable abbrev sRowOf : Stmt := top 43
noncomputable abbrev sRead : Stmt := top 48
/-- a word that may be read -/
noncomputable def Wo (a : Str) : Prop := a.length ≤ 1000 ∧ ∀ c ∈ cl a, c < 16 ^ 8
structure RwT (K : PySem.W.Frag) (mg : Str → Option Value) : Prop where
  axes : ∃ a, mg "AXES" = some (.ref a) ∧ ∀ H : Hp, SqT K H a [.str "x", .str "y", .str "z"]
  cmps : ∃ a, mg "COMPARISONS" = some (.ref a) ∧ ∀ H : Hp, SqT K H a [.str "<", .str "="]
  mn : ∃ t, mg "MOST_NAMES" = some (.int 4 t)
  mr : ∃ t, mg "MOST_ROWS" = some (.int 120 t)
  mb : ∃ t, mg "MOST_BODIES" = some (.int 6 t)
theorem eqS (x a : Str) : eqV (.str a) (.str x) = decide (x = a) := by
  show (a == x) = _
  by_cases h : x = a
  · subst h
    rw [decide_eq_true rfl]
    exact beq_self_eq_true x
  · rw [decide_eq_false h]
    exact beq_eq_false_iff_ne.mpr fun q => h q.symm
theorem in2 (x a b : Str) : inV (.str x) [.str a, .str b] = (decide (x = a) || decide (x = b)) := by
  unfold inV
  rw [List.any_cons, List.any_cons, List.any_nil, eqS, eqS, Bool.or_false]
theorem in3 (x a b c : Str) : inV (.str x) [.str a, .str b, .str c] = (decide (x = a) || (decide (x = b) || decide (x = c))) := by
  unfold inV
  rw [List.any_cons, List.any_cons, List.any_cons, List.any_nil, eqS, eqS, eqS, Bool.or_false]
theorem ifF (a b : Bool) : (if false = true then a else b) = b := rfl
theorem ifT (a b : Bool) : (if true = true then a else b) = a := rfl
theorem decI' (n : Nat) (m : Int) : decide (V.int (n : Int) = V.int m) = decide ((n : Int) = m) := by
  by_cases h : (n : Int) = m
  · rw [decide_eq_true h, decide_eq_true (by rw [h])]
  · rw [decide_eq_false h, decide_eq_false (fun z => h (by injection z))]
theorem le4 : 4 ≤ sizeLine := by decide
theorem le5 : 5 ≤ sizeLine := by decide
section
variable {P : Program} {w : World} {K : PySem.W.Frag} {mg : Str → Option Value} {base : Heap} {CN f : Addr} {fd' : FuncData}
noncomputable def spLen (K : PySem.W.Frag) (CN : Addr) : Sp := fun vs H Q E => ∃ (D : Addr) (ws : List V) (i j : Int), vs = [.ref D, .int i, .int j] ∧ SqL K H D ws ∧ ((i ≤ (ws.length : Int) ∧ (ws.length : Int) ≤ j) → Q .non H) ∧ (¬ (i ≤ (ws.length : Int) ∧ (ws.length : Int) ≤ j) → E (.ref CN) none H)
theorem scLen : FnScope ["words", "least", "most"] ["words", "least", "most"] (defScope sLen) := ⟨rfl, rfl, rfl, by decide +kernel, rfl, by decide +kernel, by decide +kernel⟩
theorem ok_len (T : LawT mg) (R : RowT K mg base CN) (F : Fun K "look_at_length" "look_at_length" sLen f fd') : FnOk P w K mg base (CX1 P w) 1 f fd' ["words", "least", "most"] (spLen K CN) := by
  have nd := scLen.nd
  refine F.ok1 scLen (fun vs H Q E h => ?_) (fun cdv A outer s H vs Q E hr h => ?_)
  · obtain ⟨D, ws, i, j, rfl, _⟩ := h
    rfl
  obtain ⟨D, ws, i, j, rfl, sq, q1, q2⟩ := h
  obtain ⟨bm, O, FB⟩ := R.own
  refine ⟨_, (pss_one (ps_if (pt_not (pt_chain op_le op_le (pv 1) (pe_callB call_len_seq rfl T.len PySem.boot_len (pa_cons (pv 0) pa_nil)) (pv 2))) (pss_one (ps_raise O FB rfl rfl raises1 (pa_cons pe_str pa_nil))) pss_nil)), ?_⟩
  refine ⟨_, rfl, _, rfl, D, ws, rfl, .inl sq, _, _, rfl, rfl, _, rfl, ?_⟩
  by_cases h1 : i ≤ (ws.length : Int)
  · rw [decide_eq_true h1]
    refine iteT ⟨_, rfl, _, _, rfl, rfl, _, rfl, ?_⟩
    by_cases h2 : (ws.length : Int) ≤ j
    · rw [decide_eq_true h2]
      exact iteF (q1 ⟨h1, h2⟩)
    · rw [decide_eq_false h2]
      exact iteT ⟨le1, q2 fun z => h2 z.2⟩
  · rw [decide_eq_false h1]
    exact iteF ⟨_, rfl, iteT ⟨le1, q2 fun z => h1 z.1⟩⟩
noncomputable def spNameOf (CN : Addr) : Sp := fun vs H Q E => ∃ z : Str, vs = [.str z] ∧ Wo z ∧ (nameS z = true → ∀ H', Same H H' → Q (.str z) H') ∧ (nameS z = false → ∀ H', Same H H' → E (.ref CN) none H')
theorem scNameOf : FnScope ["word"] ["word"] (defScope sNameOf) := ⟨rfl, rfl, rfl, by decide +kernel, rfl, by decide +kernel, by decide +kernel⟩
theorem ok_nameOf (R : RowT K mg base CN) (FN : Fn P w K mg base "is_name" 2 ["word"] spName) (F : Fun K "name_of" "name_of" sNameOf f fd') : FnOk P w K mg base (CX1 P w) 3 f fd' ["word"] (spNameOf CN) := by
  have nd := scNameOf.nd
  refine F.ok1 scNameOf (fun vs H Q E h => ?_) (fun cdv A outer s H vs Q E hr h => ?_)
  · obtain ⟨z, rfl, _⟩ := h
    rfl
  obtain ⟨z, rfl, hz, q1, q2⟩ := h
  obtain ⟨bm, O, FB⟩ := R.own
  refine ⟨_, (pss_cons (ps_if (pt_not (pt_truth (pf_call FN hr rfl (pass1 (E := E)) (pa_cons (pv 0) pa_nil)) (fun _ => rfl))) (pss_one (ps_raise O FB rfl rfl raises1 (pa_cons (pe_fsR (pv 0) (by decide +kernel)) pa_nil))) pss_nil)
    (pss_one (ps_ret (pv 0)))), ?_⟩
  refine ⟨_, rfl, z, rfl, hz.1, fun H1 s1 => ⟨_, rfl, ?_⟩⟩
  cases hn : nameS z with
  | true => exact iteF ⟨_, rfl, q1 hn _ s1⟩
  | false => exact iteT ⟨_, rfl, z, rfl, hz.1, hz.2, fun y => ⟨le1, q2 hn _ s1⟩⟩
/-! ### rows -/
inductive Rk where
  | plain
  | times
  | iff
  | els
  | fin
  | call (x : Str) (n : Nat)
  | sub (x : Str) (n : Nat) (dup : Bool)
  | bad
/-- a row as it is handed on -/
noncomputable def RowAt (H H' : Hp) (v : V) : Rk → Prop
  | .plain => ∃ t k xs, v = .ref t ∧ H' t = some (.tup (.str k :: xs)) ∧ (k = "hold" ∨ k = "move" ∨ k = "let")
  | .times => ∃ t a b, v = .ref t ∧ H' t = some (.tup [.str "times", a, b])
  | .iff => ∃ t a b c, v = .ref t ∧ H' t = some (.tup [.str "if", a, b, c])
  | .els => ∃ t, v = .ref t ∧ H' t = some (.tup [.str "else"])
  | .fin => ∃ t, v = .ref t ∧ H' t = some (.tup [.str "end"])
  | .call x n => ∃ t l es, v = .ref t ∧ H' t = some (.tup [.str "call", .str x, .ref l]) ∧ H l = none ∧ H' l = some (.lst es) ∧ es.length = n
  | .sub x n dup => ∃ (t l : Addr) (ns : List Str), v = .ref t ∧ H' t = some (.tup [.str "sub", .str x, .ref l]) ∧ H l = none ∧ H' l = some (.lst (ns.map V.str)) ∧ ns.length = n ∧ (dup = true ↔ ¬ ns.Nodup)
  | .bad => False
noncomputable def GoodE (a : Str) : Prop := Wo a ∧ ∃ e, exprD a = some e
noncomputable def GoodN (a : Str) : Prop := a.length ≤ 1000 ∧ nameS a = true
noncomputable abbrev okE (a : Str) : Bool := (exprD a).isSome
theorem ask_expr {a : Str} {H : Hp} {Q : VK} {E : XK} (h : Wo a) (q1 : okE a = true → ∀ v H', Same H H' → Q v H') (q2 : okE a = false → ∀ H', Same H H' → E (.ref CN) none H') : spExpr K CN [.str a] H Q E := by
  refine ⟨a, rfl, h.1, h.2, ?_⟩
  cases he : exprD a with
  | none => exact q2 (by show (exprD a).isSome = false; rw [he]; rfl)
  | some e => exact fun v H' s _ => q1 (by show (exprD a).isSome = true; rw [he]; rfl) v H' s
/-- what reading a row's words comes to -/
noncomputable def OutF (CN : Addr) (H : Hp) (Q : VK) (E : XK) : Option Rk → Prop
  | some rk => ∀ v H', Same H H' → RowAt H H' v rk → Q v H'
  | none => ∀ H', Same H H' → E (.ref CN) none H'
theorem OutF.no {H : Hp} {Q : VK} {E : XK} {r : Option Rk} (q : OutF CN H Q E r) (h : r = none) : ∀ H', Same H H' → E (.ref CN) none H' := by
  rw [h] at q
  exact q
theorem OutF.yes {H : Hp} {Q : VK} {E : XK} {r : Option Rk} (q : OutF CN H Q E r) {rk : Rk} (h : r = some rk) : ∀ v H', Same H H' → RowAt H H' v rk → Q v H' := by
  rw [h] at q
  exact q
noncomputable def Wos (ws : List Str) : Prop := ∀ a ∈ ws, Wo a
noncomputable def spRow (K : PySem.W.Frag) (CN : Addr) (F : List Str → Option Rk) : Sp := fun vs H Q E => ∃ (D : Addr) (ws : List Str), vs = [.ref D] ∧ SqL K H D (ws.map V.str) ∧ Wos ws ∧ OutF CN H Q E (F ws)
theorem len1 {ws : List Str} (h : ws.length = 1) : ∃ a, ws = [a] := by
  match ws, h with
  | [a], _ => exact ⟨a, rfl⟩
theorem len2 {ws : List Str} (h : ws.length = 2) : ∃ a b, ws = [a, b] := by
  match ws, h with
  | [a, b], _ => exact ⟨a, b, rfl⟩
theorem len3 {ws : List Str} (h : ws.length = 3) : ∃ a b c, ws = [a, b, c] := by
  match ws, h with
  | [a, b, c], _ => exact ⟨a, b, c, rfl⟩
theorem len4 {ws : List Str} (h : ws.length = 4) : ∃ a b c d, ws = [a, b, c, d] := by
  match ws, h with
  | [a, b, c, d], _ => exact ⟨a, b, c, d, rfl⟩
noncomputable def holdF : List Str → Option Rk
  | [_, a] => if okE a = true then some .plain else none
  | _ => none
theorem holdF_no {ws : List Str} (h : ws.length ≠ 2) : holdF ws = none := by
  match ws, h with
  | [], _ => rfl
  | [_], _ => rfl
  | _ :: _ :: _ :: _, _ => rfl
theorem scHold : FnScope ["words"] ["words"] (defScope sHold) := ⟨rfl, rfl, rfl, by decide +kernel, rfl, by decide +kernel, by decide +kernel⟩
theorem ok_hold (FL : Fn P w K mg base "look_at_length" 1 ["words", "least", "most"] (spLen K CN)) (FE : Fn P w K mg base "expression" 27 ["word"] (spExpr K CN)) (F : Fun K "hold_row" "hold_row" sHold f fd') : FnOk P w K mg base (CX1 P w) 28 f fd' ["words"] (spRow K CN holdF) := by
  have nd := scHold.nd
  refine F.ok1 scHold (fun vs H Q E h => ?_) (fun cdv A outer s H vs Q E hr h => ?_)
  · obtain ⟨D, a, rfl, _⟩ := h
    rfl
  obtain ⟨D, ws, rfl, sq, wo, q⟩ := h
  have hr1 : Room 1 _ := hr.mono (by decide)
  refine ⟨_, (pss_cons (ps_expr (pf_call FL hr1 rfl (pass1 (E := E)) (pa_cons (pv 0) (pa_cons pe_int (pa_cons pe_int pa_nil)))))
    (pss_one (ps_ret (pe_tup (pa_cons pe_str (pa_cons (pf_call FE hr rfl (pass1 (E := E)) (pa_cons (pe_ix (ix_listK (K := K) rfl) (pv 0) pe_int (fun _ _ => rfl)) pa_nil)) pa_nil)))))), ?_⟩
  refine ⟨_, rfl, D, _, 2, 2, rfl, sq, fun hl => ?_, fun hl => q.no (holdF_no fun z => hl (by rw [List.length_map]; omega)) _ (Same.refl _)⟩
  rw [List.length_map] at hl
  obtain ⟨k, a, rfl⟩ := len2 (ws := ws) (by omega)
  refine ⟨_, rfl, D, _, 1, .str a, rfl, rfl, sq, rfl, ask_expr (wo a (by simp)) (fun he v H1 s1 => ⟨le2, fun t ht => ?_⟩) fun he => q.no (by show (if okE a = true then some Rk.plain else none) = none; rw [if_neg (by rw [he]; decide)])⟩
  exact q.yes (rk := .plain) (by show (if okE a = true then some Rk.plain else none) = some .plain; rw [if_pos he]) _ _ (s1.trans (same_upd ht _)) ⟨t, "hold", _, rfl, upd_same, .inl rfl⟩
noncomputable def isA (x : Str) : Bool := decide (x = "x") || (decide (x = "y") || decide (x = "z"))
noncomputable def moveF : List Str → Option Rk
  | [_, x, a] => if (isA x && okE a) = true then some .plain else none
  | [_, x, b, a] => if (isA x && (decide (b = "by") && okE a)) = true then some .plain else none
  | _ => none
theorem moveF_no {ws : List Str} (h3 : ws.length ≠ 3) (h4 : ws.length ≠ 4) : moveF ws = none := by
  match ws, h3, h4 with
  | [], _, _ => rfl
  | [_], _, _ => rfl
  | [_, _], _, _ => rfl
  | _ :: _ :: _ :: _ :: _ :: _, _, _ => rfl
theorem noF {b : Bool} {rk : Rk} (h : b = false) : (if b = true then some rk else none) = (none : Option Rk) := by rw [h]; rfl
theorem yesF {b : Bool} {rk : Rk} (h : b = true) : (if b = true then some rk else none) = some rk := by rw [h]; rfl
theorem scMove : FnScope ["words", "by"] ["words"] (defScope sMove) := ⟨rfl, rfl, rfl, by decide +kernel, rfl, by decide +kernel, by decide +kernel⟩
theorem ok_move (T : LawT mg) (R : RowT K mg base CN) (W : RwT K mg) (FL : Fn P w K mg base "look_at_length" 1 ["words", "least", "most"] (spLen K CN)) (FE : Fn P w K mg base "expression" 27 ["word"] (spExpr K CN)) (F : Fun K "move_row" "move_row" sMove f fd') : FnOk P w K mg base (CX1 P w) 28 f fd' ["words"] (spRow K CN moveF) := by
  have nd := scMove.nd
  refine F.ok1 scMove (fun vs H Q E h => ?_) (fun cdv A outer s H vs Q E hr h => ?_)
  · obtain ⟨D, a, rfl, _⟩ := h
    rfl
  obtain ⟨D, ws, rfl, sq, wo, q⟩ := h
  have hr1 : Room 1 _ := hr.mono (by decide)
  obtain ⟨bm, O, FB⟩ := R.own
  obtain ⟨ax, g1, hax⟩ := W.axes
  refine ⟨_, (pss_cons (ps_expr (pf_call FL hr1 rfl (pass1 (E := E)) (pa_cons (pv 0) (pa_cons pe_int (pa_cons pe_int pa_nil)))))
    (pss_cons (ps_set (i := 1) nd rfl (Or.inl rfl) (pe_cmpR op_eq (pe_callB call_len_seq rfl T.len PySem.boot_len (pa_cons (pv 0) pa_nil)) pe_int (nomark _)))
    (pss_mid (ps_if (PW.pt (pw_or (pt_cmpR op_notIn_seq (pe_ix (ix_listK (K := K) rfl) (pv 0) pe_int (fun _ _ => rfl)) (pe_glob (v := .ref ax) rfl g1 rfl) (by with_unfolding_all rfl)) (pw_or1 (PW.pt (pw_and (pt_truth (pv 1) (fun _ => rfl)) (pw_and1 (pt_cmpR op_ne (pe_ix (ix_listK (K := K) rfl) (pv 0) pe_int (fun _ _ => rfl)) pe_str (nomark _)))))))) (pss_one (ps_raise O FB rfl rfl raises1 (pa_cons pe_str pa_nil))) pss_nil)
    (pss_one (ps_ret (pe_tup (pa_cons pe_str (pa_cons (pe_ix (ix_listK (K := K) rfl) (pv 0) pe_int (fun _ _ => rfl)) (pa_cons (pe_ix (ix_listK (K := K) rfl) (pv 0) pe_int (fun _ _ => rfl)) (pa_cons (pf_call FE hr rfl (pass1 (E := E)) (pa_cons (pe_ix (ix_listK (K := K) rfl) (pv 0) (pe_un un_neg pe_int) (fun _ _ => rfl)) pa_nil)) (pa_cons (pv 1) pa_nil))))))))))), ?_⟩
  refine ⟨_, rfl, D, _, 3, 4, rfl, sq, fun hl => ?_, fun hl => q.no (moveF_no (fun z => hl (by rw [List.length_map]; omega)) (fun z => hl (by rw [List.length_map]; omega))) _ (Same.refl _)⟩
  rw [List.length_map] at hl
  refine ⟨_, rfl, D, _, rfl, .inl sq, rfl, ?_⟩
  rw [List.length_map, decI']
  by_cases h4 : ws.length = 4
  · obtain ⟨k, x, b, a, rfl⟩ := len4 h4
    have sq' : SqL K H D [.str k, .str x, .str b, .str a] := sq
    refine ⟨fun σ H1 => σ = [some (.ref D), some (.bl true)] ∧ H1 = H ∧ isA x = true ∧ b = "by", ?_, ?_⟩
    · refine ⟨_, rfl, D, _, 1, .str x, rfl, rfl, sq', rfl, ax, _, rfl, .inr (hax _), rfl, rfl, _, rfl, ?_⟩
      rw [ifT, in3]
      cases hx : isA x with
      | false =>
        rw [show (decide (x = "x") || (decide (x = "y") || decide (x = "z"))) = false from hx]
        exact iteT (iteT ⟨le1, q.no (noF (by rw [hx]; rfl)) _ (Same.refl _)⟩)
      | true =>
        rw [show (decide (x = "x") || (decide (x = "y") || decide (x = "z"))) = true from hx]
        refine iteF ⟨_, rfl, _, rfl, iteT ⟨_, rfl, D, _, 2, .str b, rfl, rfl, sq', rfl, rfl, _, rfl, ?_⟩⟩
        rw [decS]
        by_cases hb : b = "by"
        · rw [decide_eq_true hb]
          exact iteF ⟨rfl, rfl, rfl, hb⟩
        · rw [decide_eq_false hb]
          exact iteT ⟨le1, q.no (noF (by rw [hx, decide_eq_false hb]; rfl)) _ (Same.refl _)⟩
    rintro σ H1 ⟨rfl, rfl, hx, hb⟩
    refine ⟨_, rfl, D, _, 0, .str k, rfl, rfl, sq', rfl, _, rfl, D, _, 1, .str x, rfl, rfl, sq', rfl, _, rfl, _, rfl, D, _, -1, .str a, rfl, rfl, sq', rfl, ask_expr (wo a (by simp)) (fun he v H2 s2 => ⟨_, rfl, le5, fun t ht => ?_⟩) fun he => q.no (noF (by rw [hx, decide_eq_true hb, he]; rfl))⟩
    exact q.yes (yesF (by rw [hx, decide_eq_true hb, he]; rfl)) _ _ (s2.trans (same_upd ht _)) ⟨t, "move", _, rfl, upd_same, .inr (.inl rfl)⟩
  · obtain ⟨k, x, a, rfl⟩ := len3 (ws := ws) (by omega)
    have sq' : SqL K H D [.str k, .str x, .str a] := sq
    refine ⟨fun σ H1 => σ = [some (.ref D), some (.bl false)] ∧ H1 = H ∧ isA x = true, ?_, ?_⟩
    · refine ⟨_, rfl, D, _, 1, .str x, rfl, rfl, sq', rfl, ax, _, rfl, .inr (hax _), rfl, rfl, _, rfl, ?_⟩
      rw [ifT, in3]
      cases hx : isA x with
      | false =>
        rw [show (decide (x = "x") || (decide (x = "y") || decide (x = "z"))) = false from hx]
        exact iteT (iteT ⟨le1, q.no (noF (by rw [hx]; rfl)) _ (Same.refl _)⟩)
      | true =>
        rw [show (decide (x = "x") || (decide (x = "y") || decide (x = "z"))) = true from hx]
        exact iteF ⟨_, rfl, _, rfl, iteF (iteF ⟨rfl, rfl, rfl⟩)⟩
    rintro σ H1 ⟨rfl, rfl, hx⟩
    refine ⟨_, rfl, D, _, 0, .str k, rfl, rfl, sq', rfl, _, rfl, D, _, 1, .str x, rfl, rfl, sq', rfl, _, rfl, _, rfl, D, _, -1, .str a, rfl, rfl, sq', rfl, ask_expr (wo a (by simp)) (fun he v H2 s2 => ⟨_, rfl, le5, fun t ht => ?_⟩) fun he => q.no (noF (by rw [hx, he]; rfl))⟩
    exact q.yes (yesF (by rw [hx, he]; rfl)) _ _ (s2.trans (same_upd ht _)) ⟨t, "move", _, rfl, upd_same, .inr (.inl rfl)⟩
noncomputable def neF (rk : Rk) : List Str → Option Rk
  | [_, x, a] => if (nameS x && okE a) = true then some rk else none
  | _ => none
theorem neF_no {rk : Rk} {ws : List Str} (h : ws.length ≠ 3) : neF rk ws = none := by
  match ws, h with
  | [], _ => rfl
  | [_], _ => rfl
  | [_, _], _ => rfl
  | _ :: _ :: _ :: _ :: _, _ => rfl
theorem scLet : FnScope ["words"] ["words"] (defScope sLet) := ⟨rfl, rfl, rfl, by decide +kernel, rfl, by decide +kernel, by decide +kernel⟩
theorem ok_let (FL : Fn P w K mg base "look_at_length" 1 ["words", "least", "most"] (spLen K CN)) (FO : Fn P w K mg base "name_of" 3 ["word"] (spNameOf CN)) (FE : Fn P w K mg base "expression" 27 ["word"] (spExpr K CN)) (F : Fun K "let_row" "let_row" sLet f fd') : FnOk P w K mg base (CX1 P w) 28 f fd' ["words"] (spRow K CN (neF .plain)) := by
  have nd := scLet.nd
  refine F.ok1 scLet (fun vs H Q E h => ?_) (fun cdv A outer s H vs Q E hr h => ?_)
  · obtain ⟨D, a, rfl, _⟩ := h
    rfl
  obtain ⟨D, ws, rfl, sq, wo, q⟩ := h
  have hr1 : Room 1 _ := hr.mono (by decide)
  have hr3 : Room 3 _ := hr.mono (by decide)
  refine ⟨_, (pss_cons (ps_expr (pf_call FL hr1 rfl (pass1 (E := E)) (pa_cons (pv 0) (pa_cons pe_int (pa_cons pe_int pa_nil)))))
    (pss_one (ps_ret (pe_tup (pa_cons pe_str (pa_cons (pf_call FO hr3 rfl (pass1 (E := E)) (pa_cons (pe_ix (ix_listK (K := K) rfl) (pv 0) pe_int (fun _ _ => rfl)) pa_nil)) (pa_cons (pf_call FE hr rfl (pass1 (E := E)) (pa_cons (pe_ix (ix_listK (K := K) rfl) (pv 0) pe_int (fun _ _ => rfl)) pa_nil)) pa_nil))))))), ?_⟩
  refine ⟨_, rfl, D, _, 3, 3, rfl, sq, fun hl => ?_, fun hl => q.no (neF_no fun z => hl (by rw [List.length_map]; omega)) _ (Same.refl _)⟩
  rw [List.length_map] at hl
  obtain ⟨k, x, a, rfl⟩ := len3 (ws := ws) (by omega)
  refine ⟨_, rfl, D, _, 1, .str x, rfl, rfl, sq, rfl, x, rfl, wo x (by simp), fun hx H1 s1 => ?_, fun hx => q.no (noF (by rw [hx]; rfl))⟩
  refine ⟨_, rfl, D, _, 2, .str a, rfl, rfl, s1.seq sq, rfl, ask_expr (wo a (by simp)) (fun he v H2 s2 => ⟨le3, fun t ht => ?_⟩) fun he H2 s2 => q.no (noF (by rw [hx, he]; rfl)) _ (s1.trans s2)⟩
  exact q.yes (yesF (by rw [hx, he]; rfl)) _ _ (s1.trans (s2.trans (same_upd ht _))) ⟨t, "let", _, rfl, upd_same, .inr (.inr rfl)⟩
theorem scTimes : FnScope ["words"] ["words"] (defScope sTimes) := ⟨rfl, rfl, rfl, by decide +kernel, rfl, by decide +kernel, by decide +kernel⟩
theorem ok_times (FL : Fn P w K mg base "look_at_length" 1 ["words", "least", "most"] (spLen K CN)) (FO : Fn P w K mg base "name_of" 3 ["word"] (spNameOf CN)) (FE : Fn P w K mg base "expression" 27 ["word"] (spExpr K CN)) (F : Fun K "times_row" "times_row" sTimes f fd') : FnOk P w K mg base (CX1 P w) 28 f fd' ["words"] (spRow K CN (neF .times)) := by
  have nd := scTimes.nd
  refine F.ok1 scTimes (fun vs H Q E h => ?_) (fun cdv A outer s H vs Q E hr h => ?_)
  · obtain ⟨D, a, rfl, _⟩ := h
    rfl
  obtain ⟨D, ws, rfl, sq, wo, q⟩ := h
  have hr1 : Room 1 _ := hr.mono (by decide)
  have hr3 : Room 3 _ := hr.mono (by decide)
  refine ⟨_, (pss_cons (ps_expr (pf_call FL hr1 rfl (pass1 (E := E)) (pa_cons (pv 0) (pa_cons pe_int (pa_cons pe_int pa_nil)))))
    (pss_one (ps_ret (pe_tup (pa_cons pe_str (pa_cons (pf_call FO hr3 rfl (pass1 (E := E)) (pa_cons (pe_ix (ix_listK (K := K) rfl) (pv 0) pe_int (fun _ _ => rfl)) pa_nil)) (pa_cons (pf_call FE hr rfl (pass1 (E := E)) (pa_cons (pe_ix (ix_listK (K := K) rfl) (pv 0) pe_int (fun _ _ => rfl)) pa_nil)) pa_nil))))))), ?_⟩
  refine ⟨_, rfl, D, _, 3, 3, rfl, sq, fun hl => ?_, fun hl => q.no (neF_no fun z => hl (by rw [List.length_map]; omega)) _ (Same.refl _)⟩
  rw [List.length_map] at hl
  obtain ⟨k, x, a, rfl⟩ := len3 (ws := ws) (by omega)
  refine ⟨_, rfl, D, _, 1, .str x, rfl, rfl, sq, rfl, x, rfl, wo x (by simp), fun hx H1 s1 => ?_, fun hx => q.no (noF (by rw [hx]; rfl))⟩
  refine ⟨_, rfl, D, _, 2, .str a, rfl, rfl, s1.seq sq, rfl, ask_expr (wo a (by simp)) (fun he v H2 s2 => ⟨le3, fun t ht => ?_⟩) fun he H2 s2 => q.no (noF (by rw [hx, he]; rfl)) _ (s1.trans s2)⟩
  exact q.yes (yesF (by rw [hx, he]; rfl)) _ _ (s1.trans (s2.trans (same_upd ht _))) ⟨t, _, _, rfl, upd_same⟩
noncomputable def isC (x : Str) : Bool := decide (x = "<") || decide (x = "=")
noncomputable def ifF' : List Str → Option Rk
  | [_, a, c, b] => if (isC c && (okE a && okE b)) = true then some .iff else none
  | _ => none
theorem ifF'_no {ws : List Str} (h : ws.length ≠ 4) : ifF' ws = none := by
  match ws, h with
  | [], _ => rfl
  | [_], _ => rfl
  | [_, _], _ => rfl
  | [_, _, _], _ => rfl
  | _ :: _ :: _ :: _ :: _ :: _, _ => rfl
theorem scIf : FnScope ["words"] ["words"] (defScope sIf) := ⟨rfl, rfl, rfl, by decide +kernel, rfl, by decide +kernel, by decide +kernel⟩
theorem ok_if (R : RowT K mg base CN) (W : RwT K mg) (FL : Fn P w K mg base "look_at_length" 1 ["words", "least", "most"] (spLen K CN)) (FE : Fn P w K mg base "expression" 27 ["word"] (spExpr K CN)) (F : Fun K "if_row" "if_row" sIf f fd') : FnOk P w K mg base (CX1 P w) 28 f fd' ["words"] (spRow K CN ifF') := by
  have nd := scIf.nd
  refine F.ok1 scIf (fun vs H Q E h => ?_) (fun cdv A outer s H vs Q E hr h => ?_)
  · obtain ⟨D, a, rfl, _⟩ := h
    rfl
  obtain ⟨D, ws, rfl, sq, wo, q⟩ := h
  have hr1 : Room 1 _ := hr.mono (by decide)
  obtain ⟨bm, O, FB⟩ := R.own
  obtain ⟨ac, g1, hac⟩ := W.cmps
  refine ⟨_, (pss_cons (ps_expr (pf_call FL hr1 rfl (pass1 (E := E)) (pa_cons (pv 0) (pa_cons pe_int (pa_cons pe_int pa_nil)))))
    (pss_cons (ps_if (pt_cmpR op_notIn_seq (pe_ix (ix_listK (K := K) rfl) (pv 0) pe_int (fun _ _ => rfl)) (pe_glob (v := .ref ac) rfl g1 rfl) (by with_unfolding_all rfl)) (pss_one (ps_raise O FB rfl rfl raises1 (pa_cons pe_str pa_nil))) pss_nil)
    (pss_one (ps_ret (pe_tup (pa_cons pe_str (pa_cons (pe_ix (ix_listK (K := K) rfl) (pv 0) pe_int (fun _ _ => rfl)) (pa_cons (pf_call FE hr rfl (pass1 (E := E)) (pa_cons (pe_ix (ix_listK (K := K) rfl) (pv 0) pe_int (fun _ _ => rfl)) pa_nil)) (pa_cons (pf_call FE hr rfl (pass1 (E := E)) (pa_cons (pe_ix (ix_listK (K := K) rfl) (pv 0) pe_int (fun _ _ => rfl)) pa_nil)) pa_nil))))))))), ?_⟩
  refine ⟨_, rfl, D, _, 4, 4, rfl, sq, fun hl => ?_, fun hl => q.no (ifF'_no fun z => hl (by rw [List.length_map]; omega)) _ (Same.refl _)⟩
  rw [List.length_map] at hl
  obtain ⟨k, a, c, b, rfl⟩ := len4 (ws := ws) (by omega)
  refine ⟨_, rfl, D, _, 2, .str c, rfl, rfl, sq, rfl, ac, _, rfl, .inr (hac _), rfl, rfl, _, rfl, ?_⟩
  rw [ifT, in2]
  cases hc : isC c with
  | false =>
    rw [show (decide (c = "<") || decide (c = "=")) = false from hc]
    exact iteT ⟨le1, q.no (noF (by rw [hc]; rfl)) _ (Same.refl _)⟩
  | true =>
    rw [show (decide (c = "<") || decide (c = "=")) = true from hc]
    refine iteF ⟨_, rfl, D, _, 2, .str c, rfl, rfl, sq, rfl, _, rfl, D, _, 1, .str a, rfl, rfl, sq, rfl, ask_expr (wo a (by simp)) (fun ha v1 H1 s1 => ⟨_, rfl, D, _, 3, .str b, rfl, rfl, s1.seq sq, rfl, ask_expr (wo b (by simp)) (fun hb v2 H2 s2 => ⟨le4, fun t ht => ?_⟩) fun hb H2 s2 => q.no (noF (by rw [hc, ha, hb]; rfl)) _ (s1.trans s2)⟩) fun ha => q.no (noF (by rw [hc, ha]; rfl))⟩
    exact q.yes (yesF (by rw [hc, ha, hb]; rfl)) _ _ (s1.trans (s2.trans (same_upd ht _))) ⟨t, _, _, _, rfl, upd_same⟩
noncomputable def bareF : List Str → Option Rk
  | [k] => if k = "else" then some .els else if k = "end" then some .fin else none
  | _ => none
theorem bareF_no {ws : List Str} (h : ws.length ≠ 1) : bareF ws = none := by
  match ws, h with
  | [], _ => rfl
  | _ :: _ :: _, _ => rfl
noncomputable def spBare (K : PySem.W.Frag) (CN : Addr) : Sp := fun vs H Q E => ∃ (D : Addr) (k : Str) (r : List Str), vs = [.ref D] ∧ SqL K H D ((k :: r).map V.str) ∧ (k = "else" ∨ k = "end") ∧ OutF CN H Q E (bareF (k :: r))
theorem scBare : FnScope ["words"] ["words"] (defScope sBare) := ⟨rfl, rfl, rfl, by decide +kernel, rfl, by decide +kernel, by decide +kernel⟩
theorem ok_bare (FL : Fn P w K mg base "look_at_length" 1 ["words", "least", "most"] (spLen K CN)) (F : Fun K "bare_row" "bare_row" sBare f fd') : FnOk P w K mg base (CX1 P w) 28 f fd' ["words"] (spBare K CN) := by
  have nd := scBare.nd
  refine F.ok1 scBare (fun vs H Q E h => ?_) (fun cdv A outer s H vs Q E hr h => ?_)
  · obtain ⟨D, k, r, rfl, _⟩ := h
    rfl
  obtain ⟨D, k, r, rfl, sq, hk, q⟩ := h
  have hr1 : Room 1 _ := hr.mono (by decide)
  refine ⟨_, (pss_cons (ps_expr (pf_call FL hr1 rfl (pass1 (E := E)) (pa_cons (pv 0) (pa_cons pe_int (pa_cons pe_int pa_nil)))))
    (pss_one (ps_ret (pe_tup (pa_cons (pe_ix (ix_listK (K := K) rfl) (pv 0) pe_int (fun _ _ => rfl)) pa_nil))))), ?_⟩
  refine ⟨_, rfl, D, _, 1, 1, rfl, sq, fun hl => ?_, fun hl => q.no (bareF_no fun z => hl (by rw [List.length_map]; omega)) _ (Same.refl _)⟩
  rw [List.length_map] at hl
  obtain ⟨k', e⟩ := len1 (ws := k :: r) (by omega)
  cases e
  refine ⟨_, rfl, D, _, 0, .str k, rfl, rfl, sq, rfl, le1, fun t ht => ?_⟩
  rcases hk with rfl | rfl
  · exact q.yes (rk := .els) (by show (if ("else" : Str) = "else" then some Rk.els else if ("else" : Str) = "end" then some Rk.fin else none) = _; rw [if_pos rfl]) _ _ (same_upd ht _) ⟨t, rfl, upd_same⟩
  · exact q.yes (rk := .fin) (by show (if ("end" : Str) = "else" then some Rk.els else if ("end" : Str) = "end" then some Rk.fin else none) = _; rw [if_neg (by decide +kernel), if_pos rfl]) _ _ (same_upd ht _) ⟨t, rfl, upd_same⟩
end
end Car

set_option maxHeartbeats 1000000
namespace Car
open PySem L2
theorem cut2 (a b : V) (xs : List V) : cutV (a :: b :: xs) (some 2) none = xs := by
  unfold cutV
  have e1 : HT.sIx (a :: b :: xs).length 0 (some 2) = 2 := by
    unfold HT.sIx
    simp
  have e2 : HT.sIx (a :: b :: xs).length (a :: b :: xs).length none = xs.length + 2 := by
    unfold HT.sIx
    simp
  rw [e1, e2]
  simp
theorem at1 {a x : V} {xs : List V} : atI (a :: x :: xs) 1 = some x := show atI (a :: x :: xs) ((1 : Nat) : Int) = some x from atI_nat rfl
theorem at0 {x : V} {xs : List V} : atI (x :: xs) 0 = some x := show atI (x :: xs) ((0 : Nat) : Int) = some x from atI_nat rfl
section
variable {P : Program} {w : World} {K : PySem.W.Frag} {mg : Str → Option Value} {base : Heap} {CN f : Addr} {fd' : FuncData}
theorem str_of {ms : List Str} {i : Nat} {x : V} (h : (ms.map V.str)[i]? = some x) : ∃ z, x = .str z ∧ ms[i]? = some z := by
  rw [List.getElem?_map] at h
  cases hm : ms[i]? with
  | none => rw [hm] at h; cases h
  | some z => rw [hm] at h; cases h; exact ⟨z, rfl, rfl⟩
noncomputable def callF : List Str → Option Rk
  | _ :: x :: as => if (decide (as.length ≤ 4) && (nameS x && as.all okE)) = true then some (.call x as.length) else none
  | _ => none
theorem callF_no {ws : List Str} (h : ¬ (2 ≤ ws.length ∧ ws.length ≤ 6)) : callF ws = none := by
  match ws, h with
  | [], _ => rfl
  | [_], _ => rfl
  | _ :: x :: as, h => exact noF (by rw [decide_eq_false (fun z => h ⟨by simp, by simp; omega⟩)]; rfl)
theorem two {ws : List Str} (h : 2 ≤ ws.length) : ∃ k x as, ws = k :: x :: as := by
  match ws, h with
  | k :: x :: as, _ => exact ⟨k, x, as, rfl⟩
theorem all_snoc {g : Str → Bool} {as : List Str} {i : Nat} {z : Str} (h : (as.take i).all g = true) (hz : as[i]? = some z) (hg : g z = true) : (as.take (i + 1)).all g = true := by
  obtain ⟨hlt, e⟩ := List.getElem?_eq_some_iff.mp hz
  rw [List.take_succ_eq_append_getElem hlt, e, List.all_append, h, List.all_cons, hg]
  rfl
theorem all_no {g : Str → Bool} {as : List Str} {i : Nat} {z : Str} (hz : as[i]? = some z) (hg : g z = false) : as.all g = false := by
  rw [List.all_eq_false]
  exact ⟨z, List.mem_of_getElem? hz, by rw [hg]; decide⟩
theorem scCall : FnScope ["words"] ["words"] (defScope sCall) := ⟨rfl, rfl, rfl, by decide +kernel, rfl, by decide +kernel, by decide +kernel⟩
theorem ok_call (W : RwT K mg) (FL : Fn P w K mg base "look_at_length" 1 ["words", "least", "most"] (spLen K CN)) (FO : Fn P w K mg base "name_of" 3 ["word"] (spNameOf CN)) (FE : Fn P w K mg base "expression" 27 ["word"] (spExpr K CN)) (F : Fun K "call_row" "call_row" sCall f fd') : FnOk P w K mg base (CX1 P w) 28 f fd' ["words"] (spRow K CN callF) := by
  have nd := scCall.nd
  refine F.ok1 scCall (fun vs H Q E h => ?_) (fun cdv A outer s H vs Q E hr h => ?_)
  · obtain ⟨D, x, rfl, _⟩ := h
    rfl
  obtain ⟨D, ws, rfl, sq, wo, q⟩ := h
  have hr1 : Room 1 _ := hr.mono (by decide)
  have hr3 : Room 3 _ := hr.mono (by decide)
  obtain ⟨t0, g0⟩ := W.mn
  refine ⟨_, (pss_cons (ps_expr (pf_call FL hr1 rfl (pass1 (E := E)) (pa_cons (pv 0) (pa_cons pe_int (pa_cons (pe_op op_add pe_int (pe_glob (v := .int 4) rfl g0 ⟨_, rfl⟩)) pa_nil)))))
    (pss_one (ps_ret (pe_tup (pa_cons pe_str (pa_cons (pf_call FO hr3 rfl (pass1 (E := E)) (pa_cons (pe_ix (ix_listK (K := K) rfl) (pv 0) pe_int (fun _ _ => rfl)) pa_nil)) (pa_cons (pe_lcX (handsOn1 (E := E)) (own := ["word"]) (capn := []) (capI := []) rfl (blk0 rfl (by decide +kernel)) (pi_list (pe_slice sl_list (pv 0) (po_some pe_int) po_none)) (fun _ _ _ _ _ _ => pg_name (i := 0) (nd1 "word") rfl (Or.inl rfl)) (fun _ _ _ _ _ _ => pifs_nil) (fun _ _ _ _ _ _ => (pf_call FE hr rfl passR (pa_cons (pv 0) pa_nil)))) pa_nil))))))), ?_⟩
  refine ⟨_, rfl, _, _, rfl, rfl, D, _, 2, 6, rfl, sq, fun hl => ?_, fun hl => q.no (callF_no fun z => hl (by rw [List.length_map]; omega)) _ (Same.refl _)⟩
  rw [List.length_map] at hl
  obtain ⟨k, x, as, rfl⟩ := two (ws := ws) (by omega)
  have hl4 : as.length ≤ 4 := by simp at hl; omega
  have sq' : SqL K H D (.str k :: .str x :: as.map V.str) := sq
  refine ⟨_, rfl, D, _, 1, .str x, rfl, rfl, sq', at1, x, rfl, wo x (by simp), fun hx H1 s1 => ?_, fun hx => q.no (noF (by rw [hx]; exact Bool.and_false _))⟩
  refine ⟨_, rfl, 2, rfl, D, _, rfl, s1.seq sq', fun p hp => ?_⟩
  rw [cut2]
  have s2 := s1.trans (same_upd hp (.lst (as.map V.str)))
  have hp2 : upd H1 p (.lst (as.map V.str)) p = some (.lst (as.map V.str)) := upd_same
  generalize upd H1 p (.lst (as.map V.str)) = H2 at s2 hp2
  refine ⟨p, rfl, ⟨_, SqL.of hp2⟩, fun L hL => ?_⟩
  have hLH : H L = none := s2.free hL
  refine ⟨Wd as.length (fun i σ acc H3 => ∃ o : Option V, σ = [o] ∧ acc.length = i ∧ Same H2 H3 ∧ H3 L = some (.lst acc) ∧ (as.take i).all okE = true), wd_0 ⟨none, rfl, rfl, same_upd hL _, upd_same, rfl⟩, ?_⟩
  rintro i m σ acc H3 ⟨rfl, hi0, o, rfl, hal, s3, hL3, hok⟩
  refine lc_ask (K := K) (SqL.of (s3 _ _ hp2)) (by rw [List.length_map]; exact hi0) (fun y hy hi => ?_) (fun hend => ?_)
  · obtain ⟨z, rfl, hz⟩ := str_of hy
    refine ⟨_, rfl, ask_expr (wo z (List.mem_cons_of_mem _ (List.mem_cons_of_mem _ (List.mem_of_getElem? hz)))) (fun he v H4 s4 => ⟨s4 _ _ hL3, ?_, wd_next (by rw [List.length_map] at hi; exact hi) ⟨_, rfl, by rw [List.length_append, hal]; rfl, same_in (s3.trans s4) hL, upd_same, all_snoc hok hz he⟩⟩) fun he H4 s4 => q.no (noF (by rw [all_no hz he, Bool.and_false, Bool.and_false])) _ (s2.trans (s3.trans s4))⟩
    rw [hal]
    exact line3 (show i ≤ 1000 by omega) (by decide)
  · refine ⟨le3, fun t ht => ?_⟩
    rw [List.length_map] at hend
    rw [hend, List.take_length] at hok
    refine q.yes (yesF (by rw [decide_eq_true hl4, hx, hok]; rfl)) _ _ (s2.trans (s3.trans (same_upd ht _))) ⟨t, L, acc, rfl, upd_same, hLH, same_upd ht _ _ _ hL3, ?_⟩
    rw [hal, hend]
noncomputable def subF : List Str → Option Rk
  | _ :: x :: ns => if (decide (ns.length ≤ 4) && (nameS x && ns.all nameS)) = true then some (.sub x ns.length (!decide ns.Nodup)) else none
  | _ => none
theorem subF_no {ws : List Str} (h : ¬ (2 ≤ ws.length ∧ ws.length ≤ 6)) : subF ws = none := by
  match ws, h with
  | [], _ => rfl
  | [_], _ => rfl
  | _ :: x :: as, h => exact noF (by rw [decide_eq_false (fun z => h ⟨by simp, by simp; omega⟩)]; rfl)
theorem scSub : FnScope ["words"] ["words"] (defScope sSub) := ⟨rfl, rfl, rfl, by decide +kernel, rfl, by decide +kernel, by decide +kernel⟩
theorem ok_sub (W : RwT K mg) (FL : Fn P w K mg base "look_at_length" 1 ["words", "least", "most"] (spLen K CN)) (FO : Fn P w K mg base "name_of" 3 ["word"] (spNameOf CN)) (F : Fun K "sub_row" "sub_row" sSub f fd') : FnOk P w K mg base (CX1 P w) 28 f fd' ["words"] (spRow K CN subF) := by
  have nd := scSub.nd
  refine F.ok1 scSub (fun vs H Q E h => ?_) (fun cdv A outer s H vs Q E hr h => ?_)
  · obtain ⟨D, x, rfl, _⟩ := h
    rfl
  obtain ⟨D, ws, rfl, sq, wo, q⟩ := h
  have hr1 : Room 1 _ := hr.mono (by decide)
  have hr3 : Room 3 _ := hr.mono (by decide)
  obtain ⟨t0, g0⟩ := W.mn
  refine ⟨_, (pss_cons (ps_expr (pf_call FL hr1 rfl (pass1 (E := E)) (pa_cons (pv 0) (pa_cons pe_int (pa_cons (pe_op op_add pe_int (pe_glob (v := .int 4) rfl g0 ⟨_, rfl⟩)) pa_nil)))))
    (pss_one (ps_ret (pe_tup (pa_cons pe_str (pa_cons (pf_call FO hr3 rfl (pass1 (E := E)) (pa_cons (pe_ix (ix_listK (K := K) rfl) (pv 0) pe_int (fun _ _ => rfl)) pa_nil)) (pa_cons (pe_lcX (handsOn1 (E := E)) (own := ["word"]) (capn := []) (capI := []) rfl (blk0 rfl (by decide +kernel)) (pi_list (pe_slice sl_list (pv 0) (po_some pe_int) po_none)) (fun _ _ _ _ _ _ => pg_name (i := 0) (nd1 "word") rfl (Or.inl rfl)) (fun _ _ _ _ _ _ => pifs_nil) (fun _ _ _ _ _ _ => (pf_call FO hr3 rfl passR (pa_cons (pv 0) pa_nil)))) pa_nil))))))), ?_⟩
  refine ⟨_, rfl, _, _, rfl, rfl, D, _, 2, 6, rfl, sq, fun hl => ?_, fun hl => q.no (subF_no fun z => hl (by rw [List.length_map]; omega)) _ (Same.refl _)⟩
  rw [List.length_map] at hl
  obtain ⟨k, x, as, rfl⟩ := two (ws := ws) (by omega)
  have hl4 : as.length ≤ 4 := by simp at hl; omega
  have sq' : SqL K H D (.str k :: .str x :: as.map V.str) := sq
  refine ⟨_, rfl, D, _, 1, .str x, rfl, rfl, sq', at1, x, rfl, wo x (by simp), fun hx H1 s1 => ?_, fun hx => q.no (noF (by rw [hx]; exact Bool.and_false _))⟩
  refine ⟨_, rfl, 2, rfl, D, _, rfl, s1.seq sq', fun p hp => ?_⟩
  rw [cut2]
  have s2 := s1.trans (same_upd hp (.lst (as.map V.str)))
  have hp2 : upd H1 p (.lst (as.map V.str)) p = some (.lst (as.map V.str)) := upd_same
  generalize upd H1 p (.lst (as.map V.str)) = H2 at s2 hp2
  refine ⟨p, rfl, ⟨_, SqL.of hp2⟩, fun L hL => ?_⟩
  have hLH : H L = none := s2.free hL
  refine ⟨Wd as.length (fun i σ acc H3 => ∃ o : Option V, σ = [o] ∧ acc = (as.take i).map V.str ∧ Same H2 H3 ∧ H3 L = some (.lst acc) ∧ (as.take i).all nameS = true), wd_0 ⟨none, rfl, rfl, same_upd hL _, upd_same, rfl⟩, ?_⟩
  rintro i m σ acc H3 ⟨rfl, hi0, o, rfl, rfl, s3, hL3, hok⟩
  refine lc_ask (K := K) (SqL.of (s3 _ _ hp2)) (by rw [List.length_map]; exact hi0) (fun y hy hi => ?_) (fun hend => ?_)
  · obtain ⟨z, rfl, hz⟩ := str_of hy
    refine ⟨_, rfl, z, rfl, wo z (List.mem_cons_of_mem _ (List.mem_cons_of_mem _ (List.mem_of_getElem? hz))), fun hn H4 s4 => ⟨s4 _ _ hL3, ?_, wd_next (by rw [List.length_map] at hi; exact hi) ⟨_, rfl, ?_, same_in (s3.trans s4) hL, upd_same, all_snoc hok hz hn⟩⟩, fun hn H4 s4 => q.no (noF (by rw [all_no hz hn, Bool.and_false, Bool.and_false])) _ (s2.trans (s3.trans s4))⟩
    · rw [List.length_map, List.length_take]
      exact line3 (show min i as.length ≤ 1000 by omega) (by decide)
    · obtain ⟨hlt, e⟩ := List.getElem?_eq_some_iff.mp hz
      rw [List.take_succ_eq_append_getElem hlt, e, List.map_append]
      rfl
  · rw [List.length_map] at hend
    rw [hend, List.take_length] at hL3 hok
    refine ⟨le3, fun t ht => ?_⟩
    exact q.yes (yesF (by rw [decide_eq_true hl4, hx, hok]; rfl)) _ _ (s2.trans (s3.trans (same_upd ht _))) ⟨t, L, as, rfl, upd_same, hLH, same_upd ht _ _ _ hL3, rfl, by by_cases h : as.Nodup <;> simp [h]⟩
end
end Car

set_option maxHeartbeats 1000000
namespace Car
open PySem L2
noncomputable def rowF : List Str → Option Rk
  | [] => none
  | k :: r => if k = "hold" then holdF (k :: r) else if k = "fast" then moveF (k :: r) else if k = "slow" then moveF (k :: r) else if k = "let" then neF .plain (k :: r) else if k = "call" then callF (k :: r) else if k = "times" then neF .times (k :: r) else if k = "if" then ifF' (k :: r) else if k = "else" then bareF (k :: r) else if k = "end" then bareF (k :: r) else if k = "sub" then subF (k :: r) else none
theorem rowF_eq (k : Str) (r : List Str) : rowF (k :: r) = if k = "hold" then holdF (k :: r) else if k = "fast" then moveF (k :: r) else if k = "slow" then moveF (k :: r) else if k = "let" then neF .plain (k :: r) else if k = "call" then callF (k :: r) else if k = "times" then neF .times (k :: r) else if k = "if" then ifF' (k :: r) else if k = "else" then bareF (k :: r) else if k = "end" then bareF (k :: r) else if k = "sub" then subF (k :: r) else none := rfl
noncomputable def RkG : Rk → Prop
  | .call x _ => GoodN x
  | .sub x n _ => GoodN x ∧ n ≤ 1000
  | _ => True
/-- words and the row that they are -/
structure RowW (ws : List Str) (rk : Rk) : Prop where
  wo : Wos ws
  len : ws.length ≤ 1000
  ne : ws ≠ []
  is : rowF ws = some rk ∨ (rk = .bad ∧ rowF ws = none)
  gd : RkG rk
theorem wo_lit {a : Str} (h : (decide (a.length ≤ 1000) && (cl a).all fun c => decide (c < 16 ^ 8)) = true) : Wo a := by
  rw [Bool.and_eq_true] at h
  exact ⟨of_decide_eq_true h.1, fun c hc => of_decide_eq_true (List.all_eq_true.mp h.2 c hc)⟩
theorem name_wo {x : Str} (h : GoodN x) : Wo x := by
  refine ⟨h.1, fun c hc => ?_⟩
  have h2 := h.2
  unfold nameS at h2
  rw [Bool.and_eq_true, Bool.and_eq_true] at h2
  have h3 := h2.2.1
  unfold wrt at h3
  have h4 := of_decide_eq_true (List.all_eq_true.mp h3 c hc)
  have h5 : (cl smallT).all (fun c => decide (c < 16 ^ 8)) = true := by decide +kernel
  exact of_decide_eq_true (List.all_eq_true.mp h5 c h4)
theorem GoodE.ok {a : Str} (h : GoodE a) : okE a = true := by
  obtain ⟨_, e, he⟩ := h
  show (exprD a).isSome = true
  rw [he]
  rfl
theorem wos1 {a : Str} (h : Wo a) : Wos [a] := fun x hx => by rw [List.mem_singleton.mp hx]; exact h
theorem wosc {a : Str} {r : List Str} (h : Wo a) (hr : Wos r) : Wos (a :: r) := fun x hx => by
  rcases List.mem_cons.mp hx with rfl | hx
  · exact h
  · exact hr x hx
noncomputable def isAx (x : Str) : Prop := x = "x" ∨ x = "y" ∨ x = "z"
theorem isAx.ok {x : Str} (h : isAx x) : isA x = true ∧ Wo x := by
  rcases h with rfl | rfl | rfl
  · exact ⟨by decide +kernel, wo_lit (by decide +kernel)⟩
  · exact ⟨by decide +kernel, wo_lit (by decide +kernel)⟩
  · exact ⟨by decide +kernel, wo_lit (by decide +kernel)⟩
theorem RowW.hold {a : Str} (h : GoodE a) : RowW ["hold", a] .plain := ⟨wosc (wo_lit (by decide +kernel)) (wos1 h.1), by show 2 ≤ 1000; decide, by simp, .inl (by
  rw [rowF_eq, if_pos rfl]
  exact yesF h.ok), trivial⟩
theorem RowW.by_ {x a : Str} (hx : isAx x) (h : GoodE a) : RowW ["fast", x, "by", a] .plain := ⟨wosc (wo_lit (by decide +kernel)) (wosc hx.ok.2 (wosc (wo_lit (by decide +kernel)) (wos1 h.1))), by show 4 ≤ 1000; decide, by simp, .inl (by
  rw [rowF_eq, if_neg (by decide +kernel), if_pos rfl]
  exact yesF (by rw [hx.ok.1, h.ok, decide_eq_true rfl]; rfl)), trivial⟩
theorem RowW.let_ {x a : Str} (hx : GoodN x) (h : GoodE a) : RowW ["let", x, a] .plain := ⟨wosc (wo_lit (by decide +kernel)) (wosc (name_wo hx) (wos1 h.1)), by show 3 ≤ 1000; decide, by simp, .inl (by
  rw [rowF_eq, if_neg (by decide +kernel), if_neg (by decide +kernel), if_neg (by decide +kernel), if_pos rfl]
  exact yesF (by rw [hx.2, h.ok]; rfl)), trivial⟩
theorem RowW.call {x : Str} {as : List Str} (hx : GoodN x) (ha : ∀ a ∈ as, GoodE a) (hl : as.length ≤ 4) : RowW ("call" :: x :: as) (.call x as.length) := ⟨wosc (wo_lit (by decide +kernel)) (wosc (name_wo hx) fun a h => (ha a h).1), by rw [List.length_cons, List.length_cons]; omega, by simp, .inl (by
  rw [rowF_eq, if_neg (by decide +kernel), if_neg (by decide +kernel), if_neg (by decide +kernel), if_neg (by decide +kernel), if_pos rfl]
  exact yesF (by rw [decide_eq_true hl, hx.2, List.all_eq_true.mpr fun a h => (ha a h).ok]; rfl)), hx⟩
theorem RowW.times {x a : Str} (hx : GoodN x) (h : GoodE a) : RowW ["times", x, a] .times := ⟨wosc (wo_lit (by decide +kernel)) (wosc (name_wo hx) (wos1 h.1)), by show 3 ≤ 1000; decide, by simp, .inl (by
  rw [rowF_eq, if_neg (by decide +kernel), if_neg (by decide +kernel), if_neg (by decide +kernel), if_neg (by decide +kernel), if_neg (by decide +kernel), if_pos rfl]
  exact yesF (by rw [hx.2, h.ok]; rfl)), trivial⟩
theorem RowW.iff {a c b : Str} (hc : c = "<" ∨ c = "=") (ha : GoodE a) (hb : GoodE b) : RowW ["if", a, c, b] .iff := ⟨wosc (wo_lit (by decide +kernel)) (wosc ha.1 (wosc (by rcases hc with rfl | rfl <;> exact wo_lit (by decide +kernel)) (wos1 hb.1))), by show 4 ≤ 1000; decide, by simp, .inl (by
  rw [rowF_eq, if_neg (by decide +kernel), if_neg (by decide +kernel), if_neg (by decide +kernel), if_neg (by decide +kernel), if_neg (by decide +kernel), if_neg (by decide +kernel), if_pos rfl]
  exact yesF (by rw [show isC c = true by rcases hc with rfl | rfl <;> decide +kernel, ha.ok, hb.ok]; rfl)), trivial⟩
theorem RowW.els : RowW ["else"] .els := ⟨wos1 (wo_lit (by decide +kernel)), by show 1 ≤ 1000; decide, by simp, .inl (by
  rw [rowF_eq, if_neg (by decide +kernel), if_neg (by decide +kernel), if_neg (by decide +kernel), if_neg (by decide +kernel), if_neg (by decide +kernel), if_neg (by decide +kernel), if_neg (by decide +kernel), if_pos rfl]
  show (if ("else" : Str) = "else" then some Rk.els else if ("else" : Str) = "end" then some Rk.fin else none) = _
  rw [if_pos rfl]), trivial⟩
theorem RowW.fin : RowW ["end"] .fin := ⟨wos1 (wo_lit (by decide +kernel)), by show 1 ≤ 1000; decide, by simp, .inl (by
  rw [rowF_eq, if_neg (by decide +kernel), if_neg (by decide +kernel), if_neg (by decide +kernel), if_neg (by decide +kernel), if_neg (by decide +kernel), if_neg (by decide +kernel), if_neg (by decide +kernel), if_neg (by decide +kernel), if_pos rfl]
  show (if ("end" : Str) = "else" then some Rk.els else if ("end" : Str) = "end" then some Rk.fin else none) = _
  rw [if_neg (by decide +kernel), if_pos rfl]), trivial⟩
theorem RowW.sub {x : Str} {ns : List Str} {dup : Bool} (hx : GoodN x) (ha : ∀ a ∈ ns, GoodN a) (hl : ns.length ≤ 4) (hd : dup = true ↔ ¬ ns.Nodup) : RowW ("sub" :: x :: ns) (.sub x ns.length dup) := ⟨wosc (wo_lit (by decide +kernel)) (wosc (name_wo hx) fun a h => name_wo (ha a h)), by rw [List.length_cons, List.length_cons]; omega, by simp, .inl (by
  have e : dup = !decide ns.Nodup := by
    by_cases h : ns.Nodup
    · rw [decide_eq_true h]
      cases dup with
      | true => exact absurd h (hd.mp rfl)
      | false => rfl
    · rw [decide_eq_false h]
      exact hd.mpr h
  rw [e]
  rw [rowF_eq, if_neg (by decide +kernel), if_neg (by decide +kernel), if_neg (by decide +kernel), if_neg (by decide +kernel), if_neg (by decide +kernel), if_neg (by decide +kernel), if_neg (by decide +kernel), if_neg (by decide +kernel), if_neg (by decide +kernel), if_pos rfl]
  exact yesF (by rw [decide_eq_true hl, hx.2, List.all_eq_true.mpr fun a h => (ha a h).2]; rfl)), ⟨hx, by omega⟩⟩
noncomputable abbrev kI (x : Str) : Key := Sum.inr x
noncomputable def formsK (f1 f2 f3 f4 f5 f6 f7 f8 : Addr) : List (Key × V) := [(kI "hold", .ref f1), (kI "fast", .ref f2), (kI "slow", .ref f2), (kI "let", .ref f3), (kI "call", .ref f4), (kI "times", .ref f5), (kI "if", .ref f6), (kI "else", .ref f7), (kI "end", .ref f7), (kI "sub", .ref f8)]
theorem kI_dec (a b : Str) : decide (kI a = kI b) = decide (a = b) := by
  by_cases h : a = b
  · rw [decide_eq_true h, decide_eq_true (by rw [h])]
  · rw [decide_eq_false h, decide_eq_false (fun z => h (Sum.inr.inj z))]
structure FmT (P : Program) (w : World) (K : PySem.W.Frag) (mg : Str → Option Value) (base : Heap) (CN a f1 f2 f3 f4 f5 f6 f7 f8 : Addr) : Prop where
  ns : mg "FORMS" = some (.ref a)
  dk : DkK P w K a (formsK f1 f2 f3 f4 f5 f6 f7 f8)
  h1 : FnV P w K mg base 28 f1 ["words"] (spRow K CN holdF)
  h2 : FnV P w K mg base 28 f2 ["words"] (spRow K CN moveF)
  h3 : FnV P w K mg base 28 f3 ["words"] (spRow K CN (neF .plain))
  h4 : FnV P w K mg base 28 f4 ["words"] (spRow K CN callF)
  h5 : FnV P w K mg base 28 f5 ["words"] (spRow K CN (neF .times))
  h6 : FnV P w K mg base 28 f6 ["words"] (spRow K CN ifF')
  h7 : FnV P w K mg base 28 f7 ["words"] (spBare K CN)
  h8 : FnV P w K mg base 28 f8 ["words"] (spRow K CN subF)
section
variable {P : Program} {w : World} {K : PySem.W.Frag} {mg : Str → Option Value} {base : Heap} {CN f fa f1 f2 f3 f4 f5 f6 f7 f8 : Addr} {fd' : FuncData}
/-- what a row comes to -/
noncomputable def OutK (CN : Addr) (H : Hp) (Q : VK) (E : XK) : Rk → Prop
  | .bad => ∀ H', Same H H' → E (.ref CN) none H'
  | rk => ∀ v H', Same H H' → RowAt H H' v rk → Q v H'
noncomputable def spRowOf (CN : Addr) : Sp := fun vs H Q E => ∃ (z : Str) (rk : Rk), vs = [.str z] ∧ Wo z ∧ RowW (Txt.split z " ") rk ∧ OutK CN H Q E rk
theorem scRowOf : FnScope ["text", "words"] ["text"] (defScope sRowOf) := ⟨rfl, rfl, rfl, by decide +kernel, rfl, by decide +kernel, by decide +kernel⟩
/-- the def of a row -/
theorem ask_row (T : FmT P w K mg base CN fa f1 f2 f3 f4 f5 f6 f7 f8) (k : Str) (r : List Str) : (∃ (g : Addr) (sp : Sp), valV (formsK f1 f2 f3 f4 f5 f6 f7 f8) (kI k) = some (.ref g) ∧ FnV P w K mg base 28 g ["words"] sp ∧
    ∀ (D : Addr) (H : Hp) (Q : VK) (E : XK), SqL K H D ((k :: r).map V.str) → Wos (k :: r) → OutF CN H Q E (rowF (k :: r)) → sp [.ref D] H Q E) ∨ (valV (formsK f1 f2 f3 f4 f5 f6 f7 f8) (kI k) = none ∧ rowF (k :: r) = none) := by
  have e : rowF (k :: r) = if k = "hold" then holdF (k :: r) else if k = "fast" then moveF (k :: r) else if k = "slow" then moveF (k :: r) else if k = "let" then neF .plain (k :: r) else if k = "call" then callF (k :: r) else if k = "times" then neF .times (k :: r) else if k = "if" then ifF' (k :: r) else if k = "else" then bareF (k :: r) else if k = "end" then bareF (k :: r) else if k = "sub" then subF (k :: r) else none := rfl
  rw [e]
  by_cases h0 : k = "hold"
  · rw [if_pos h0]
    subst h0
    exact .inl ⟨f1, _, rfl, T.h1, fun D H Q E sq wo q => ⟨D, _, rfl, sq, wo, q⟩⟩
  rw [if_neg h0]
  by_cases h1 : k = "fast"
  · rw [if_pos h1]
    subst h1
    exact .inl ⟨f2, _, rfl, T.h2, fun D H Q E sq wo q => ⟨D, _, rfl, sq, wo, q⟩⟩
  rw [if_neg h1]
  by_cases h2 : k = "slow"
  · rw [if_pos h2]
    subst h2
    exact .inl ⟨f2, _, rfl, T.h2, fun D H Q E sq wo q => ⟨D, _, rfl, sq, wo, q⟩⟩
  rw [if_neg h2]
  by_cases h3 : k = "let"
  · rw [if_pos h3]
    subst h3
    exact .inl ⟨f3, _, rfl, T.h3, fun D H Q E sq wo q => ⟨D, _, rfl, sq, wo, q⟩⟩
  rw [if_neg h3]
  by_cases h4 : k = "call"
  · rw [if_pos h4]
    subst h4
    exact .inl ⟨f4, _, rfl, T.h4, fun D H Q E sq wo q => ⟨D, _, rfl, sq, wo, q⟩⟩
  rw [if_neg h4]
  by_cases h5 : k = "times"
  · rw [if_pos h5]
    subst h5
    exact .inl ⟨f5, _, rfl, T.h5, fun D H Q E sq wo q => ⟨D, _, rfl, sq, wo, q⟩⟩
  rw [if_neg h5]
  by_cases h6 : k = "if"
  · rw [if_pos h6]
    subst h6
    exact .inl ⟨f6, _, rfl, T.h6, fun D H Q E sq wo q => ⟨D, _, rfl, sq, wo, q⟩⟩
  rw [if_neg h6]
  by_cases h7 : k = "else"
  · rw [if_pos h7]
    subst h7
    exact .inl ⟨f7, _, rfl, T.h7, fun D H Q E sq wo q => ⟨D, _, r, rfl, sq, .inl rfl, q⟩⟩
  rw [if_neg h7]
  by_cases h8 : k = "end"
  · rw [if_pos h8]
    subst h8
    exact .inl ⟨f7, _, rfl, T.h7, fun D H Q E sq wo q => ⟨D, _, r, rfl, sq, .inr rfl, q⟩⟩
  rw [if_neg h8]
  by_cases h9 : k = "sub"
  · rw [if_pos h9]
    subst h9
    exact .inl ⟨f8, _, rfl, T.h8, fun D H Q E sq wo q => ⟨D, _, rfl, sq, wo, q⟩⟩
  rw [if_neg h9]
  refine .inr ⟨?_, rfl⟩
  unfold valV formsK
  simp only [List.find?_cons, kI_dec, decide_eq_false (Ne.symm h0), decide_eq_false (Ne.symm h1), decide_eq_false (Ne.symm h2), decide_eq_false (Ne.symm h3), decide_eq_false (Ne.symm h4), decide_eq_false (Ne.symm h5), decide_eq_false (Ne.symm h6), decide_eq_false (Ne.symm h7), decide_eq_false (Ne.symm h8), decide_eq_false (Ne.symm h9), List.find?_nil]
  rfl
theorem ok_rowOf (R : RowT K mg base CN) (T : FmT P w K mg base CN fa f1 f2 f3 f4 f5 f6 f7 f8) (F : Fun K "row_of" "row_of" sRowOf f fd') : FnOk P w K mg base (CX1 P w) 29 f fd' ["text"] (spRowOf CN) := by
  have nd := scRowOf.nd
  refine F.ok1 scRowOf (fun vs H Q E h => ?_) (fun cdv A outer s H vs Q E hr h => ?_)
  · obtain ⟨z, rk, rfl, _⟩ := h
    rfl
  obtain ⟨z, rk, rfl, hz, hw, q⟩ := h
  have hz' : z.length ≤ sizeLine := Nat.le_of_lt (line3 hz.1 (by decide))
  obtain ⟨bm, O, FB⟩ := R.own
  refine ⟨_, (pss_cons (ps_set (i := 1) nd rfl (Or.inl rfl) (pe_bm PySem.F.plainAttrs_str PySem.F.slot_str_split PySem.F.type_str_split mt_split (pv 0) (pa_cons pe_str pa_nil)))
    (pss_cons (ps_if (pt_cmp (pc_dnotinC (pe_ix (ix_listK (K := K) rfl) (pv 1) pe_int (fun _ _ => rfl)) (pe_glob (v := .ref fa) rfl T.ns rfl)) (by with_unfolding_all rfl)) (pss_one (ps_raise O FB rfl rfl raises1 (pa_cons (pe_fsR (pv 0) (by decide +kernel)) pa_nil))) pss_nil)
    (pss_one (ps_ret (pe_do (pe_dgetC (pe_glob (v := .ref fa) rfl T.ns rfl) (pe_ix (ix_listK (K := K) rfl) (pv 1) pe_int (fun _ _ => rfl)) (fun _ _ => rfl)) hr (pass1 (E := E)) (pa_cons (pv 1) pa_nil) rfl))))), ?_⟩
  obtain ⟨k, r, ews⟩ : ∃ k r, Txt.split z " " = k :: r := by
    cases h : Txt.split z " " with
    | nil => exact absurd h hw.ne
    | cons k r => exact ⟨k, r, rfl⟩
  refine ⟨_, rfl, rfl, z, _, rfl, rfl, (by decide +kernel), hz', Nat.le_of_lt (line3 hw.len (by decide)), fun D hD => ?_⟩
  have s1 := same_upd hD (.lst ((Txt.split z " ").map V.str))
  have hD1 : upd H D (.lst ((Txt.split z " ").map V.str)) D = some (.lst ((Txt.split z " ").map V.str)) := upd_same
  generalize upd H D (.lst ((Txt.split z " ").map V.str)) = H1 at s1 hD1 ⊢
  have hat : atI ((Txt.split z " ").map V.str) 0 = some (.str k) := by rw [ews]; exact at0
  refine ⟨_, rfl, D, _, 0, .str k, rfl, rfl, SqL.of hD1, hat, fa, _, kI k, rfl, T.dk, rfl, _, rfl, ?_⟩
  have hw' := hw
  rw [ews] at hw'
  rcases ask_row T k r with ⟨g, sp, hv, hF, ask⟩ | ⟨hv, hno⟩
  · rw [hv]
    refine iteF ⟨_, rfl, D, _, 0, .str k, rfl, rfl, SqL.of hD1, hat, fa, _, kI k, .ref g, rfl, T.dk, rfl, hv, g, _, _, rfl, hF, _, rfl, ?_⟩
    refine ask D H1 Q E (by rw [← ews]; exact SqL.of hD1) hw'.wo ?_
    rcases hw'.is with e | ⟨e1, e2⟩
    · rw [e]
      show ∀ v H', Same H1 H' → RowAt H1 H' v rk → Q v H'
      cases rk with
      | call x n =>
        rintro v H' s2 ⟨t, l, es, e1, e2, e3, e4, e5⟩
        exact q v H' (s1.trans s2) ⟨t, l, es, e1, e2, s1.free e3, e4, e5⟩
      | sub x n dup =>
        rintro v H' s2 ⟨t, l, ns, e1, e2, e3, e4, e5, e6⟩
        exact q v H' (s1.trans s2) ⟨t, l, ns, e1, e2, s1.free e3, e4, e5, e6⟩
      | bad => exact fun v H' s2 ra => ra.elim
      | _ => exact fun v H' s2 ra => q v H' (s1.trans s2) ra
    · rw [e2]
      subst e1
      exact fun H' s2 => q H' (s1.trans s2)
  · rw [hv]
    rcases hw'.is with e | ⟨e1, e2⟩
    · rw [hno] at e
      cases e
    · subst e1
      exact iteT ⟨_, rfl, z, rfl, hz.1, hz.2, fun y => ⟨le1, q _ s1⟩⟩
end
end Car

set_option maxHeartbeats 1000000
namespace Car
open PySem L2
/-! ### the draft: what matters of it -/
structure DM where
  un : List Str
  names : List (Str × Nat)
  calls : List (Str × Nat)
inductive Er where
  | long | row | place | deep | twice | opn | sub
noncomputable def nmK (ns : List (Str × Nat)) : List (Key × V) := ns.map fun p => (kI p.1, .int p.2)
noncomputable def stepR (M : DM) : Rk → Except Er DM
  | .plain => .ok M
  | .call x n => .ok { M with calls := M.calls ++ [(x, n)] }
  | .times => if M.un.length = 6 then .error .deep else .ok { M with un := M.un ++ [("times" : Str)] }
  | .iff => if M.un.length = 6 then .error .deep else .ok { M with un := M.un ++ [("if" : Str)] }
  | .els => if M.un.getLast? = some "if" then .ok { M with un := M.un.dropLast ++ [("else" : Str)] } else .error .place
  | .fin => if M.un = [] then .error .place else .ok { M with un := M.un.dropLast }
  | .bad => .error .row
  | .sub x n dup => if M.un ≠ [] then .error .place else if (M.names.any fun p => decide (p.1 = x)) = true ∨ dup = true then .error .twice else .ok { M with un := ["sub"], names := M.names ++ [(x, n)] }
/-! ### .. on the heap -/
noncomputable abbrev Un := Addr × Addr × V
noncomputable def UnAt (H : Hp) (Bs : List Addr) : List Un → List Str → Prop
  | [], [] => True
  | u :: us, k :: ks => (H u.1 = some (.tup [.str k, .ref u.2.1, u.2.2]) ∧ u.2.1 ∈ Bs ∧ (k = "if" → ∃ b, u.2.2 = .ref b ∧ b ∈ Bs)) ∧ UnAt H Bs us ks
  | _, _ => False
noncomputable def CaAt (H : Hp) (Bs : List Addr) (aU aC : Addr) : List (Addr × Addr) → List (Str × Nat) → Prop
  | [], [] => True
  | c :: cs, p :: ps => (H c.1 = some (.tup [.str "call", .str p.1, .ref c.2]) ∧ (∃ es, H c.2 = some (.lst es) ∧ es.length = p.2) ∧ c.2 ∉ Bs ∧ c.2 ≠ aU ∧ c.2 ≠ aC) ∧ CaAt H Bs aU aC cs ps
  | _, _ => False
structure DA where
  x : Addr
  dx : Addr
  aS : Addr
  aB : Addr
  aU : Addr
  aN : Addr
  aC : Addr
  us : List Un
  cs : List (Addr × Addr)
  Bs : List Addr
noncomputable def fsD (A : DA) : List (Str × V) := [("subs", .ref A.aS), ("body", .ref A.aB), ("unended", .ref A.aU), ("names_due", .ref A.aN), ("calls", .ref A.aC)]
structure DIn (C : Addr) (H0 H : Hp) (N : Nat) (A : DA) (M : DM) : Prop where
  ins : H A.x = some (.ins C A.dx (fsD A))
  un : H A.aU = some (.lst (A.us.map fun u => V.ref u.1))
  ul : UnAt H A.Bs A.us M.un
  ca : H A.aC = some (.lst (A.cs.map fun c => V.ref c.1))
  cl : CaAt H A.Bs A.aU A.aC A.cs M.calls
  nm : H A.aN = some (.dK (nmK M.names))
  bs : ∀ b ∈ A.Bs, ∃ zs, H b = some (.lst zs) ∧ zs.length ≤ N
  iB : A.aB ∈ A.Bs
  iS : A.aS ∈ A.Bs
  nU : A.aU ∉ A.Bs
  nC : A.aC ∉ A.Bs
  uc : A.aU ≠ A.aC
  hx : H0 A.x = none
  hU : H0 A.aU = none
  hC : H0 A.aC = none
  hN : H0 A.aN = none
  hB : ∀ b ∈ A.Bs, H0 b = none
  sm : Same H0 H
  len : M.un.length ≤ N
  cln : M.calls.length ≤ N
  nln : M.names.length ≤ N
theorem UnAt.imp {H H' : Hp} {Bs Bs' : List Addr} (h1 : ∀ t m, H t = some (.tup m) → H' t = some (.tup m)) (h2 : ∀ b ∈ Bs, b ∈ Bs') : ∀ {us : List Un} {ks : List Str}, UnAt H Bs us ks → UnAt H' Bs' us ks
  | [], [], _ => trivial
  | [], _ :: _, h => by cases h
  | _ :: _, [], h => by cases h
  | u :: us, k :: ks, h => ⟨⟨h1 _ _ h.1.1, h2 _ h.1.2.1, fun e => let ⟨b, e1, e2⟩ := h.1.2.2 e; ⟨b, e1, h2 _ e2⟩⟩, UnAt.imp h1 h2 h.2⟩
theorem UnAt.len {H : Hp} {Bs : List Addr} : ∀ {us : List Un} {ks : List Str}, UnAt H Bs us ks → us.length = ks.length
  | [], [], _ => rfl
  | [], _ :: _, h => by cases h
  | _ :: _, [], h => by cases h
  | u :: us, k :: ks, h => by rw [List.length_cons, List.length_cons, UnAt.len h.2]
theorem UnAt.snoc {H : Hp} {Bs : List Addr} {u : Un} {k : Str} (h0 : H u.1 = some (.tup [.str k, .ref u.2.1, u.2.2]) ∧ u.2.1 ∈ Bs ∧ (k = "if" → ∃ b, u.2.2 = .ref b ∧ b ∈ Bs)) : ∀ {us : List Un} {ks : List Str}, UnAt H Bs us ks → UnAt H Bs (us ++ [u]) (ks ++ [k])
  | [], [], _ => ⟨h0, trivial⟩
  | [], _ :: _, h => by cases h
  | _ :: _, [], h => by cases h
  | _ :: us, _ :: ks, h => ⟨h.1, UnAt.snoc h0 h.2⟩
theorem UnAt.last {H : Hp} {Bs : List Addr} : ∀ {us : List Un} {ks : List Str} {k : Str}, UnAt H Bs us (ks ++ [k]) → ∃ vs u, us = vs ++ [u] ∧ UnAt H Bs vs ks ∧ H u.1 = some (.tup [.str k, .ref u.2.1, u.2.2]) ∧ u.2.1 ∈ Bs ∧ (k = "if" → ∃ b, u.2.2 = .ref b ∧ b ∈ Bs)
  | [], [], _, h => by cases h
  | [], _ :: _, _, h => by cases h
  | [u], [], k, h => ⟨[], u, rfl, trivial, h.1⟩
  | u :: v :: us, [], k, h => by
    have h2 : UnAt H Bs (v :: us) [] := h.2
    cases h2
  | u :: us, k' :: ks, k, h => by
    obtain ⟨vs, u', e, h1, h2⟩ := UnAt.last (us := us) (ks := ks) h.2
    exact ⟨u :: vs, u', by rw [e]; rfl, ⟨h.1, h1⟩, h2⟩
theorem CaAt.imp {H H' : Hp} {Bs Bs' : List Addr} {aU aC : Addr} (h1 : ∀ t m, H t = some (.tup m) → H' t = some (.tup m)) (h2 : ∀ l es, l ∉ Bs → l ≠ aU → l ≠ aC → H l = some (.lst es) → H' l = some (.lst es)) (h3 : ∀ l es, l ∉ Bs → H l = some (.lst es) → l ∉ Bs') : ∀ {cs : List (Addr × Addr)} {ps : List (Str × Nat)}, CaAt H Bs aU aC cs ps → CaAt H' Bs' aU aC cs ps
  | [], [], _ => trivial
  | [], _ :: _, h => by cases h
  | _ :: _, [], h => by cases h
  | c :: cs, p :: ps, h => by
    obtain ⟨⟨a1, ⟨es, a2, a3⟩, a4, a5, a6⟩, r⟩ := h
    exact ⟨⟨h1 _ _ a1, ⟨es, h2 _ _ a4 a5 a6 a2, a3⟩, h3 _ _ a4 a2, a5, a6⟩, CaAt.imp h1 h2 h3 r⟩
theorem CaAt.snoc {H : Hp} {Bs : List Addr} {aU aC : Addr} {c : Addr × Addr} {p : Str × Nat} (h0 : H c.1 = some (.tup [.str "call", .str p.1, .ref c.2]) ∧ (∃ es, H c.2 = some (.lst es) ∧ es.length = p.2) ∧ c.2 ∉ Bs ∧ c.2 ≠ aU ∧ c.2 ≠ aC) : ∀ {cs : List (Addr × Addr)} {ps : List (Str × Nat)}, CaAt H Bs aU aC cs ps → CaAt H Bs aU aC (cs ++ [c]) (ps ++ [p])
  | [], [], _ => ⟨h0, trivial⟩
  | [], _ :: _, h => by cases h
  | _ :: _, [], h => by cases h
  | _ :: us, _ :: ks, h => ⟨h.1, CaAt.snoc h0 h.2⟩
theorem CaAt.len {H : Hp} {Bs : List Addr} {aU aC : Addr} : ∀ {us : List (Addr × Addr)} {ks : List (Str × Nat)}, CaAt H Bs aU aC us ks → us.length = ks.length
  | [], [], _ => rfl
  | [], _ :: _, h => by cases h
  | _ :: _, [], h => by cases h
  | u :: us, k :: ks, h => by rw [List.length_cons, List.length_cons, CaAt.len h.2]
section
variable {C : Addr} {H0 H H' : Hp} {N N' : Nat} {A : DA} {M : DM}
/-- more lies on the heap -/
theorem DIn.same (D : DIn C H0 H N A M) (s : Same H H') : DIn C H0 H' N A M where
  ins := s _ _ D.ins
  un := s _ _ D.un
  ul := D.ul.imp (fun t m e => s _ _ e) (fun _ h => h)
  ca := s _ _ D.ca
  cl := D.cl.imp (fun t m e => s _ _ e) (fun l es _ _ _ e => s _ _ e) (fun _ _ h _ => h)
  nm := s _ _ D.nm
  bs := fun b hb => let ⟨zs, e, l⟩ := D.bs b hb; ⟨zs, s _ _ e, l⟩
  iB := D.iB
  iS := D.iS
  nU := D.nU
  nC := D.nC
  uc := D.uc
  hx := D.hx
  hU := D.hU
  hC := D.hC
  hN := D.hN
  hB := D.hB
  sm := D.sm.trans s
  len := D.len
  cln := D.cln
  nln := D.nln
theorem DIn.mono (D : DIn C H0 H N A M) (h : N ≤ N') : DIn C H0 H N' A M :=
  { D with bs := fun b hb => let ⟨zs, e, l⟩ := D.bs b hb; ⟨zs, e, Nat.le_trans l h⟩, len := Nat.le_trans D.len h, cln := Nat.le_trans D.cln h, nln := Nat.le_trans D.nln h }
theorem lst_ne {a b : Addr} {xs : List V} {o : HO} (h1 : H a = some (.lst xs)) (h2 : H b = some o) (ne : ∀ ys, o ≠ .lst ys) : b ≠ a := fun e => by
  rw [e, h1] at h2
  cases h2
  exact ne _ rfl
theorem ne_in {a b : Addr} {Bs : List Addr} (hb : b ∈ Bs) (ha : a ∉ Bs) : a ≠ b := fun e => ha (by rw [e]; exact hb)
/-- a list whose items don't matter grows -/
theorem DIn.app (D : DIn C H0 H N A M) {b : Addr} {zs : List V} (hb : b ∈ A.Bs) (e : H b = some (.lst zs)) (hl : zs.length ≤ N) (v : V) : DIn C H0 (upd H b (.lst (zs ++ [v]))) (N + 1) A M where
  ins := by rw [upd_ne (lst_ne e D.ins fun _ h => by cases h)]; exact D.ins
  un := by rw [upd_ne (ne_in hb D.nU)]; exact D.un
  ul := D.ul.imp (fun t m q => by rw [upd_ne (lst_ne e q fun _ h => by cases h)]; exact q) (fun _ h => h)
  ca := by rw [upd_ne (ne_in hb D.nC)]; exact D.ca
  cl := D.cl.imp (fun t m q => by rw [upd_ne (lst_ne e q fun _ h => by cases h)]; exact q) (fun l es h1 _ _ q => by rw [upd_ne (ne_in hb h1)]; exact q) (fun _ _ h _ => h)
  nm := by rw [upd_ne (lst_ne e D.nm fun _ h => by cases h)]; exact D.nm
  bs := fun b' hb' => by
    by_cases z : b' = b
    · subst z
      exact ⟨_, upd_same, by rw [List.length_append, List.length_singleton]; omega⟩
    · obtain ⟨ys, q, l⟩ := D.bs b' hb'
      exact ⟨ys, by rw [upd_ne z]; exact q, by omega⟩
  iB := D.iB
  iS := D.iS
  nU := D.nU
  nC := D.nC
  uc := D.uc
  hx := D.hx
  hU := D.hU
  hC := D.hC
  hN := D.hN
  hB := D.hB
  sm := same_in D.sm (D.hB b hb)
  len := by have := D.len; omega
  cln := by have := D.cln; omega
  nln := by have := D.nln; omega
/-- the bodies that stand open change -/
theorem DIn.setU (D : DIn C H0 H N A M) {us : List Un} {ks : List Str} (h : UnAt H A.Bs us ks) (hl : ks.length ≤ N + 1) : DIn C H0 (upd H A.aU (.lst (us.map fun u => V.ref u.1))) (N + 1) { A with us := us } { M with un := ks } where
  ins := by rw [upd_ne (lst_ne D.un D.ins fun _ h => by cases h)]; exact D.ins
  un := upd_same
  ul := h.imp (fun t m q => by rw [upd_ne (lst_ne D.un q fun _ h => by cases h)]; exact q) (fun _ h => h)
  ca := by rw [upd_ne D.uc.symm]; exact D.ca
  cl := D.cl.imp (fun t m q => by rw [upd_ne (lst_ne D.un q fun _ h => by cases h)]; exact q) (fun l es _ h2 _ q => by rw [upd_ne h2]; exact q) (fun _ _ h _ => h)
  nm := by rw [upd_ne (lst_ne D.un D.nm fun _ h => by cases h)]; exact D.nm
  bs := fun b' hb' => by
    obtain ⟨ys, q, l⟩ := D.bs b' hb'
    exact ⟨ys, by rw [upd_ne (ne_in hb' D.nU).symm]; exact q, by omega⟩
  iB := D.iB
  iS := D.iS
  nU := D.nU
  nC := D.nC
  uc := D.uc
  hx := D.hx
  hU := D.hU
  hC := D.hC
  hN := D.hN
  hB := D.hB
  sm := same_in D.sm D.hU
  len := hl
  cln := by have := D.cln; show M.calls.length ≤ N + 1; omega
  nln := by have := D.nln; show M.names.length ≤ N + 1; omega
/-- a call is noted -/
theorem DIn.addC (D : DIn C H0 H N A M) {c : Addr × Addr} {p : Str × Nat} (h0 : H c.1 = some (.tup [.str "call", .str p.1, .ref c.2]) ∧ (∃ es, H c.2 = some (.lst es) ∧ es.length = p.2) ∧ c.2 ∉ A.Bs ∧ c.2 ≠ A.aU ∧ c.2 ≠ A.aC) :
    DIn C H0 (upd H A.aC (.lst ((A.cs.map fun c => V.ref c.1) ++ [.ref c.1]))) (N + 1) { A with cs := A.cs ++ [c] } { M with calls := M.calls ++ [p] } where
  ins := by rw [upd_ne (lst_ne D.ca D.ins fun _ h => by cases h)]; exact D.ins
  un := by rw [upd_ne D.uc]; exact D.un
  ul := D.ul.imp (fun t m q => by rw [upd_ne (lst_ne D.ca q fun _ h => by cases h)]; exact q) (fun _ h => h)
  ca := by rw [upd_same, List.map_append]; rfl
  cl := CaAt.imp (fun t m q => by rw [upd_ne (lst_ne D.ca q fun _ h => by cases h)]; exact q) (fun l es _ _ h3 q => by rw [upd_ne h3]; exact q) (fun _ _ h _ => h) (D.cl.snoc h0)
  nm := by rw [upd_ne (lst_ne D.ca D.nm fun _ h => by cases h)]; exact D.nm
  bs := fun b' hb' => by
    obtain ⟨ys, q, l⟩ := D.bs b' hb'
    exact ⟨ys, by rw [upd_ne (ne_in hb' D.nC).symm]; exact q, by omega⟩
  iB := D.iB
  iS := D.iS
  nU := D.nU
  nC := D.nC
  uc := D.uc
  hx := D.hx
  hU := D.hU
  hC := D.hC
  hN := D.hN
  hB := D.hB
  sm := same_in D.sm D.hC
  len := by have := D.len; show M.un.length ≤ N + 1; omega
  cln := by have := D.cln; show (M.calls ++ [p]).length ≤ N + 1; rw [List.length_append, List.length_singleton]; omega
  nln := by have := D.nln; show M.names.length ≤ N + 1; omega
/-- a name is noted -/
theorem DIn.addN (D : DIn C H0 H N A M) (p : Str × Nat) : DIn C H0 (upd H A.aN (.dK (nmK (M.names ++ [p])))) (N + 1) A { M with names := M.names ++ [p] } where
  ins := by
    rw [upd_ne (fun z => by have := D.ins; rw [z, D.nm] at this; cases this)]
    exact D.ins
  un := by
    rw [upd_ne (fun z => by have := D.un; rw [z, D.nm] at this; cases this)]
    exact D.un
  ul := D.ul.imp (fun t m q => by rw [upd_ne (fun z => by rw [z, D.nm] at q; cases q)]; exact q) (fun _ h => h)
  ca := by
    rw [upd_ne (fun z => by have := D.ca; rw [z, D.nm] at this; cases this)]
    exact D.ca
  cl := D.cl.imp (fun t m q => by rw [upd_ne (fun z => by rw [z, D.nm] at q; cases q)]; exact q) (fun l es _ _ _ q => by rw [upd_ne (fun z => by rw [z, D.nm] at q; cases q)]; exact q) (fun _ _ h _ => h)
  nm := upd_same
  bs := fun b' hb' => by
    obtain ⟨ys, q, l⟩ := D.bs b' hb'
    exact ⟨ys, by rw [upd_ne (fun z => by rw [z, D.nm] at q; cases q)]; exact q, by omega⟩
  iB := D.iB
  iS := D.iS
  nU := D.nU
  nC := D.nC
  uc := D.uc
  hx := D.hx
  hU := D.hU
  hC := D.hC
  hN := D.hN
  hB := D.hB
  sm := same_in D.sm D.hN
  len := by have := D.len; show M.un.length ≤ N + 1; omega
  cln := by have := D.cln; show M.calls.length ≤ N + 1; omega
  nln := by have := D.nln; show (M.names ++ [p]).length ≤ N + 1; rw [List.length_append, List.length_singleton]; omega
/-- a new body -/
theorem DIn.newB (D : DIn C H0 H N A M) {b : Addr} (hb : H b = none) : DIn C H0 (upd H b (.lst [])) N { A with Bs := b :: A.Bs } M := by
  have s := same_upd hb (.lst [])
  have D' := D.same s
  have nb : ∀ {a : Addr} {o : HO}, H a = some o → a ≠ b := fun {a o} e z => by rw [z, hb] at e; cases e
  exact { D' with
    ul := D'.ul.imp (fun _ _ e => e) (fun _ h => List.mem_cons_of_mem _ h)
    cl := by
      have h := D.cl
      refine CaAt.imp (Bs' := b :: A.Bs) (fun t m e => s _ _ e) (fun l es _ _ _ e => s _ _ e) (fun l es h1 e => ?_) h
      intro z
      rcases List.mem_cons.mp z with rfl | z
      · rw [hb] at e; cases e
      · exact h1 z
    bs := fun b' hb' => by
      rcases List.mem_cons.mp hb' with rfl | hb'
      · exact ⟨[], upd_same, Nat.zero_le _⟩
      · exact D'.bs b' hb'
    iB := List.mem_cons_of_mem _ D.iB
    iS := List.mem_cons_of_mem _ D.iS
    nU := fun z => by
      rcases List.mem_cons.mp z with z | z
      · exact nb D.un z
      · exact D.nU z
    nC := fun z => by
      rcases List.mem_cons.mp z with z | z
      · exact nb D.ca z
      · exact D.nC z
    hB := fun b' hb' => by
      rcases List.mem_cons.mp hb' with rfl | hb'
      · exact D.sm.free hb
      · exact D.hB b' hb' }
end
end Car

set_option maxHeartbeats 1000000
namespace Car
open PySem L2
noncomputable abbrev dr (i : Nat) : Stmt := inClass (top 47) i
noncomputable def erName : Er → Str
  | .long => "TooLong"
  | .row => "NoRow"
  | .place => "NoPlace"
  | .deep => "TooDeep"
  | .twice => "Twice"
  | .opn => "Open"
  | .sub => "NoSub"
structure EcT (mg : Str → Option Value) (base : Heap) (ec : Er → Addr) : Prop where
  own : ∀ e, ∃ bm, PyProof.Rows.OwnCls (erName e) (ec e) bm "ValueError.__new__" mg base ∧ PySem.ExcBaseFacts "ValueError" "ValueError.__new__" "ValueError.__init__" bm
structure DrT (K : PySem.W.Frag) (C : Addr) : Prop where
  cl : Cls K C
  nS : NoAttr K C "subs"
  nB : NoAttr K C "body"
  nU : NoAttr K C "unended"
  nN : NoAttr K C "names_due"
  nC : NoAttr K C "calls"
/-- how a step ends -/
noncomputable def OutD (C : Addr) (ec : Er → Addr) (H0 : Hp) (x : Addr) (N : Nat) (Q : VK) (E : XK) : Except Er DM → Prop
  | .ok M' => ∀ A' H', A'.x = x → DIn C H0 H' N A' M' → Q .non H'
  | .error e => ∀ H', Same H0 H' → E (.ref (ec e)) none H'
theorem last_some {xs : List V} {v : V} : atI (xs ++ [v]) (-1) = some v := atI_last xs v
section
variable {P : Program} {w : World} {K : PySem.W.Frag} {mg : Str → Option Value} {base : Heap} {C f : Addr} {fd' : FuncData} {ec : Er → Addr}
/-! innermost -/
noncomputable def spInner (C : Addr) : Sp := fun vs H Q _ => ∃ (H0 : Hp) (N : Nat) (A : DA) (M : DM), vs = [.ref A.x] ∧ DIn C H0 H N A M ∧ ∀ b ∈ A.Bs, Q (.ref b) H
theorem scInner : FnScope ["self"] ["self"] (defScope (dr 2)) := ⟨rfl, rfl, rfl, by decide +kernel, rfl, by decide +kernel, by decide +kernel⟩
theorem ok_inner (T : DrT K C) (F : Fun K "innermost" "Draft.innermost" (dr 2) f fd') : FnOk P w K mg base (CX1 P w) 1 f fd' ["self"] (spInner C) := by
  have nd := scInner.nd
  refine F.ok1 scInner (fun vs H Q E h => ?_) (fun cdv A outer s H vs Q E hr h => ?_)
  · obtain ⟨H0, N, A, M, rfl, _⟩ := h
    rfl
  obtain ⟨H0, N, D, M, rfl, I, q⟩ := h
  refine ⟨_, (pss_cons (ps_if (pt_truth (pe_fld (pv 0) rfl) (fun _ => rfl)) (pss_one (ps_ret (pe_ix ix_tup (pe_ix (ix_listK (K := K) rfl) (pe_fld (pv 0) rfl) (pe_un un_neg pe_int) (fun _ _ => rfl)) pe_int (fun _ _ => rfl)))) pss_nil) (pss_one (ps_ret (pe_fld (pv 0) rfl)))), ?_⟩
  refine ⟨_, rfl, _, _, _, _, _, rfl, I.ins, T.cl, T.nU, rfl, _, .inl ⟨_, SqL.of I.un, rfl⟩, ?_⟩
  rcases List.eq_nil_or_concat M.un with hu | ⟨ks, k, hu⟩
  · have hul := I.ul
    rw [hu] at hul
    have : D.us = [] := List.length_eq_zero_iff.mp (UnAt.len hul)
    rw [this]
    exact iteF ⟨_, rfl, _, _, _, _, _, rfl, I.ins, T.cl, T.nB, rfl, q _ I.iB⟩
  · have hul := I.ul
    rw [hu, List.concat_eq_append] at hul
    obtain ⟨vs, u, eu, h1, h2, h3, h4⟩ := hul.last
    have e : (!(D.us.map fun u => V.ref u.1).isEmpty) = true := by rw [eu]; simp
    rw [e]
    refine iteT ⟨_, rfl, _, _, _, _, _, rfl, I.ins, T.cl, T.nU, rfl, _, rfl, _, _, -1, .ref u.1, rfl, rfl, SqL.of I.un, ?_, u.1, _, 1, .ref u.2.1, rfl, rfl, SqT.of h2, rfl, q _ h3⟩
    rw [eu, List.map_append]
    exact last_some
/-! look_at_depth -/
noncomputable def spDepth (C : Addr) (ec : Er → Addr) : Sp := fun vs H Q E => ∃ (H0 : Hp) (N : Nat) (A : DA) (M : DM), vs = [.ref A.x] ∧ DIn C H0 H N A M ∧ (M.un.length = 6 → ∀ H', Same H0 H' → E (.ref (ec .deep)) none H') ∧ (¬ M.un.length = 6 → Q .non H)
theorem scDepth : FnScope ["self"] ["self"] (defScope (dr 4)) := ⟨rfl, rfl, rfl, by decide +kernel, rfl, by decide +kernel, by decide +kernel⟩
theorem ok_depth (L : LawT mg) (W : RwT K mg) (T : DrT K C) (X : EcT mg base ec) (F : Fun K "look_at_depth" "Draft.look_at_depth" (dr 4) f fd') : FnOk P w K mg base (CX1 P w) 1 f fd' ["self"] (spDepth C ec) := by
  have nd := scDepth.nd
  refine F.ok1 scDepth (fun vs H Q E h => ?_) (fun cdv A outer s H vs Q E hr h => ?_)
  · obtain ⟨H0, N, A, M, rfl, _⟩ := h
    rfl
  obtain ⟨H0, N, D, M, rfl, I, q1, q2⟩ := h
  obtain ⟨bm, O, FB⟩ := X.own .deep
  obtain ⟨t, g⟩ := W.mb
  refine ⟨_, (pss_one (ps_if (pt_cmpR op_eq (pe_callB call_len_seq rfl L.len PySem.boot_len (pa_cons (pe_fld (pv 0) rfl) pa_nil)) (pe_glob (v := .int 6) rfl g ⟨_, rfl⟩) (nomark _)) (pss_one (ps_raise O FB rfl rfl raises1 (pa_cons pe_str pa_nil))) pss_nil)), ?_⟩
  refine ⟨_, rfl, _, _, _, _, _, rfl, I.ins, T.cl, T.nU, rfl, _, _, rfl, .inl (SqL.of I.un), rfl, _, rfl, ?_⟩
  have hl : ((D.us.map fun u => V.ref u.1).length : Int) = (M.un.length : Int) := by rw [List.length_map, UnAt.len I.ul]
  have e : decide (V.int ((D.us.map fun u => V.ref u.1).length : Int) = V.int 6) = decide (M.un.length = 6) := by
    by_cases h : M.un.length = 6
    · rw [decide_eq_true h, decide_eq_true (by rw [hl, h]; rfl)]
    · rw [decide_eq_false h, decide_eq_false (fun z => h (by injection z with z; rw [hl] at z; omega))]
  rw [e]
  refine ite2 (fun c => ?_) (fun c => ?_)
  · exact ⟨le1, q1 (of_decide_eq_true c) H I.sm⟩
  · exact q2 fun h => c (decide_eq_true h)
/-! put_plain -/
noncomputable def spPlain (C : Addr) : Sp := fun vs H Q _ => ∃ (H0 Hp : Hp) (N : Nat) (A : DA) (M : DM) (v : V) (rk : Rk), vs = [.ref A.x, v] ∧ DIn C H0 Hp N A M ∧ Same Hp H ∧ N ≤ 1000 ∧ RowAt Hp H v rk ∧ (rk = .plain ∨ ∃ x n, rk = .call x n) ∧
  ∀ M', stepR M rk = .ok M' → ∀ A' H', A'.x = A.x → DIn C H0 H' (N + 2) A' M' → Q .non H'
theorem scPlain : FnScope ["self", "row"] ["self", "row"] (defScope (dr 3)) := ⟨rfl, rfl, rfl, by decide +kernel, rfl, by decide +kernel, by decide +kernel⟩
theorem ok_plain (T : DrT K C) (MI : Mt P w K mg base C "innermost" 1 ["self"] (spInner C)) (F : Fun K "put_plain" "Draft.put_plain" (dr 3) f fd') : FnOk P w K mg base (CX1 P w) 2 f fd' ["self", "row"] (spPlain C) := by
  have nd := scPlain.nd
  refine F.ok1 scPlain (fun vs H Q E h => ?_) (fun cdv A outer s H vs Q E hr h => ?_)
  · obtain ⟨H0, Hp, N, A, M, v, rk, rfl, _⟩ := h
    rfl
  obtain ⟨H0, Hp, N, D, M, v, rk, rfl, I0, s0, hN, ra, hk, q⟩ := h
  have I := I0.same s0
  refine ⟨_, (pss_mid (ps_if (pt_cmpR op_eq (pe_ix ix_tup (pv 1) pe_int (fun _ _ => rfl)) pe_str (nomark _)) (pss_one (ps_expr (pe_bm PySem.F.plainAttrs_list PySem.F.slot_list_append PySem.F.type_list_append mt_append (pe_fld (pv 0) rfl) (pa_cons (pv 1) pa_nil)))) pss_nil)
    (pss_one (ps_expr (pe_bm PySem.F.plainAttrs_list PySem.F.slot_list_append PySem.F.type_list_append mt_append (pf_meth0 MI (pv 0) hr (pass1 (E := E))) (pa_cons (pv 1) pa_nil))))), ?_⟩
  refine ⟨fun σ H1 => ∃ (A1 : DA) (M1 : DM), σ = [some (.ref D.x), some v] ∧ A1.x = D.x ∧ DIn C H0 H1 (N + 1) A1 M1 ∧ stepR M rk = .ok M1, ?_, ?_⟩
  · rcases hk with rfl | ⟨x, n, rfl⟩
    · obtain ⟨t, k, xs, rfl, ht, hk⟩ := ra
      refine ⟨_, rfl, t, _, 0, .str k, rfl, rfl, SqT.of ht, at0, rfl, _, rfl, ?_⟩
      rw [decS, decide_eq_false (show ¬ k = "call" by rcases hk with rfl | rfl | rfl <;> decide +kernel)]
      exact iteF ⟨D, M, rfl, rfl, I.mono (Nat.le_succ _), rfl⟩
    · obtain ⟨t, l, es, rfl, ht, hl0, hl1, hes⟩ := ra
      refine ⟨_, rfl, t, _, 0, .str "call", rfl, rfl, SqT.of ht, rfl, rfl, _, rfl, ?_⟩
      refine iteT ⟨_, rfl, _, _, _, _, _, rfl, I.ins, T.cl, T.nC, rfl, .inl ⟨rfl, _, SqL.of I.ca⟩, _, rfl, D.aC, _, _, rfl, rfl, I.ca, ?_, ?_⟩
      · rw [List.length_map, CaAt.len I.cl]
        exact line3 (Nat.le_trans I.cln hN) (by decide)
      · have hnl : ∀ b, (∃ o, Hp b = some o) → l ≠ b := fun b ⟨o, e⟩ z => by rw [← z, hl0] at e; cases e
        refine ⟨{ D with cs := D.cs ++ [(t, l)] }, { M with calls := M.calls ++ [(x, n)] }, rfl, rfl, I.addC (c := (t, l)) (p := (x, n)) ⟨ht, ⟨es, hl1, hes⟩, fun z => ?_, hnl _ ⟨_, I0.un⟩, hnl _ ⟨_, I0.ca⟩⟩, rfl⟩
        obtain ⟨zs, e, _⟩ := I0.bs l z
        exact hnl l ⟨_, e⟩ rfl
  rintro σ H1 ⟨A1, M1, rfl, ex, I1, hst⟩
  refine ⟨_, rfl, _, _, _, rfl, (ex ▸ I1.ins), rfl, H0, N + 1, A1, M1, by rw [ex]; rfl, I1, fun b hb => ?_⟩
  obtain ⟨zs, e, hzl⟩ := I1.bs b hb
  exact ⟨.inl ⟨rfl, _, SqL.of e⟩, _, rfl, b, zs, _, rfl, rfl, e, line3 (show _ ≤ 1001 by omega) (by decide), q M1 hst A1 _ ex (I1.app hb e hzl v)⟩
/-! begin_times, begin_if -/
noncomputable def spBody (C : Addr) (ec : Er → Addr) (rk : Rk) : Sp := fun vs H Q E => ∃ (H0 Hp : Hp) (N : Nat) (A : DA) (M : DM) (v : V), vs = [.ref A.x, v] ∧ DIn C H0 Hp N A M ∧ Same Hp H ∧ N ≤ 1000 ∧ RowAt Hp H v rk ∧ OutD C ec H0 A.x (N + 2) Q E (stepR M rk)
theorem scBT : FnScope ["self", "row", "body"] ["self", "row"] (defScope (dr 6)) := ⟨rfl, rfl, rfl, by decide +kernel, rfl, by decide +kernel, by decide +kernel⟩
theorem ok_bt (T : DrT K C) (MI : Mt P w K mg base C "innermost" 1 ["self"] (spInner C)) (MD : Mt P w K mg base C "look_at_depth" 1 ["self"] (spDepth C ec)) (F : Fun K "begin_times" "Draft.begin_times" (dr 6) f fd') : FnOk P w K mg base (CX1 P w) 2 f fd' ["self", "row"] (spBody C ec .times) := by
  have nd := scBT.nd
  refine F.ok1 scBT (fun vs H Q E h => ?_) (fun cdv A outer s H vs Q E hr h => ?_)
  · obtain ⟨H0, Hp, N, A, M, v, rfl, _⟩ := h
    rfl
  obtain ⟨H0, Hp, N, D, M, v, rfl, I0, s0, hN, ra, q⟩ := h
  have I := I0.same s0
  obtain ⟨t, a, b, rfl, ht⟩ := ra
  refine ⟨_, (pss_cons (ps_expr (pf_meth0 MD (pv 0) hr (pass1 (E := E))))
    (pss_cons (ps_set (i := 2) nd rfl (Or.inl rfl) (pe_lst pa_nil))
    (pss_cons (ps_expr (pe_bm PySem.F.plainAttrs_list PySem.F.slot_list_append PySem.F.type_list_append mt_append (pf_meth0 MI (pv 0) hr (pass1 (E := E))) (pa_cons (pe_tup (pa_cons pe_str (pa_cons (pe_ix ix_tup (pv 1) pe_int (fun _ _ => rfl)) (pa_cons (pe_ix ix_tup (pv 1) pe_int (fun _ _ => rfl)) (pa_cons (pv 2) pa_nil))))) pa_nil)))
    (pss_one (ps_expr (pe_bm PySem.F.plainAttrs_list PySem.F.slot_list_append PySem.F.type_list_append mt_append (pe_fld (pv 0) rfl) (pa_cons (pe_tup (pa_cons pe_str (pa_cons (pv 2) (pa_cons pe_non pa_nil)))) pa_nil))))))), ?_⟩
  refine ⟨_, rfl, _, _, _, rfl, I.ins, rfl, H0, N, D, M, rfl, I, fun h6 H' s' => ?_, fun h6 => ?_⟩
  · have q' : OutD C ec H0 D.x (N + 2) Q E (if M.un.length = 6 then .error .deep else .ok { M with un := M.un ++ [("times" : Str)] }) := q
    rw [if_pos h6] at q'
    exact q' H' s'
  have q' : OutD C ec H0 D.x (N + 2) Q E (if M.un.length = 6 then .error .deep else .ok { M with un := M.un ++ [("times" : Str)] }) := q
  rw [if_neg h6] at q'
  refine ⟨Nat.zero_le _, fun bd hbd => ?_⟩
  have I1 := I.newB hbd
  have ht1 := same_upd hbd (.lst []) _ _ ht
  generalize upd H bd (.lst []) = H1 at I1 ht1 ⊢
  refine ⟨_, rfl, _, _, _, rfl, I1.ins, rfl, H0, N, { D with Bs := bd :: D.Bs }, M, rfl, I1, fun b' hb' => ?_⟩
  obtain ⟨zs, e, hzl⟩ := I1.bs b' hb'
  refine ⟨.inl ⟨rfl, _, SqL.of e⟩, _, rfl, t, _, 1, a, rfl, rfl, SqT.of ht1, rfl, _, rfl, t, _, 2, b, rfl, rfl, SqT.of ht1, rfl, _, rfl, le4, fun t2 ht2 => ?_⟩
  have s2 := same_upd ht2 (.tup [V.str "times", a, b, .ref bd])
  have I2 := I1.same s2
  have e2 := s2 _ _ e
  refine ⟨b', zs, _, rfl, rfl, e2, line3 (show _ ≤ 1001 by omega) (by decide), ?_⟩
  have I3 := I2.app hb' e2 hzl (.ref t2)
  generalize upd (upd H1 t2 (.tup [V.str "times", a, b, .ref bd])) b' (.lst (zs ++ [.ref t2])) = H3 at I3 ⊢
  refine ⟨_, rfl, _, _, _, _, _, rfl, I3.ins, T.cl, T.nU, rfl, .inl ⟨rfl, _, SqL.of I3.un⟩, _, rfl, le3, fun t4 ht4 => ?_⟩
  have s4 := same_upd ht4 (.tup [V.str "times", .ref bd, .non])
  have I4 := I3.same s4
  refine ⟨_, _, _, rfl, rfl, I4.un, ?_, ?_⟩
  · rw [List.length_map, UnAt.len I4.ul]
    exact line3 (show _ ≤ 1001 from Nat.le_trans I4.len (by omega)) (by decide)
  · have hU := UnAt.snoc (u := (t4, bd, .non)) (k := "times") ⟨upd_same, List.mem_cons_self, fun h => absurd h (by decide +kernel)⟩ I4.ul
    have I5 := I4.setU hU (by rw [List.length_append, List.length_singleton]; have := I.len; omega)
    rw [List.map_append] at I5
    refine q' _ _ ?_ I5
    rfl
theorem scBI : FnScope ["self", "row", "body", "other"] ["self", "row"] (defScope (dr 7)) := ⟨rfl, rfl, rfl, by decide +kernel, rfl, by decide +kernel, by decide +kernel⟩
theorem ok_bi (T : DrT K C) (MI : Mt P w K mg base C "innermost" 1 ["self"] (spInner C)) (MD : Mt P w K mg base C "look_at_depth" 1 ["self"] (spDepth C ec)) (F : Fun K "begin_if" "Draft.begin_if" (dr 7) f fd') : FnOk P w K mg base (CX1 P w) 2 f fd' ["self", "row"] (spBody C ec .iff) := by
  have nd := scBI.nd
  refine F.ok1 scBI (fun vs H Q E h => ?_) (fun cdv A outer s H vs Q E hr h => ?_)
  · obtain ⟨H0, Hp, N, A, M, v, rfl, _⟩ := h
    rfl
  obtain ⟨H0, Hp, N, D, M, v, rfl, I0, s0, hN, ra, q⟩ := h
  have I := I0.same s0
  obtain ⟨t, a, b, c, rfl, ht⟩ := ra
  refine ⟨_, (pss_cons (ps_expr (pf_meth0 MD (pv 0) hr (pass1 (E := E))))
    (pss_cons (ps_set (i := 2) nd rfl (Or.inl rfl) (pe_lst pa_nil))
    (pss_cons (ps_set (i := 3) nd rfl (Or.inl rfl) (pe_lst pa_nil))
    (pss_cons (ps_expr (pe_bm PySem.F.plainAttrs_list PySem.F.slot_list_append PySem.F.type_list_append mt_append (pf_meth0 MI (pv 0) hr (pass1 (E := E))) (pa_cons (pe_tup (pa_cons pe_str (pa_cons (pe_ix ix_tup (pv 1) pe_int (fun _ _ => rfl)) (pa_cons (pe_ix ix_tup (pv 1) pe_int (fun _ _ => rfl)) (pa_cons (pe_ix ix_tup (pv 1) pe_int (fun _ _ => rfl)) (pa_cons (pv 2) (pa_cons (pv 3) pa_nil))))))) pa_nil)))
    (pss_one (ps_expr (pe_bm PySem.F.plainAttrs_list PySem.F.slot_list_append PySem.F.type_list_append mt_append (pe_fld (pv 0) rfl) (pa_cons (pe_tup (pa_cons pe_str (pa_cons (pv 2) (pa_cons (pv 3) pa_nil)))) pa_nil)))))))), ?_⟩
  refine ⟨_, rfl, _, _, _, rfl, I.ins, rfl, H0, N, D, M, rfl, I, fun h6 H' s' => ?_, fun h6 => ?_⟩
  · have q' : OutD C ec H0 D.x (N + 2) Q E (if M.un.length = 6 then .error .deep else .ok { M with un := M.un ++ [("if" : Str)] }) := q
    rw [if_pos h6] at q'
    exact q' H' s'
  have q' : OutD C ec H0 D.x (N + 2) Q E (if M.un.length = 6 then .error .deep else .ok { M with un := M.un ++ [("if" : Str)] }) := q
  rw [if_neg h6] at q'
  refine ⟨Nat.zero_le _, fun bd hbd => ?_⟩
  have I1 := I.newB hbd
  have ht1 := same_upd hbd (.lst []) _ _ ht
  generalize upd H bd (.lst []) = H1 at I1 ht1 ⊢
  refine ⟨Nat.zero_le _, fun od hod => ?_⟩
  have I1' := I1.newB hod
  have ht1' := same_upd hod (.lst []) _ _ ht1
  clear I1 ht1
  generalize upd H1 od (.lst []) = H2 at I1' ht1' ⊢
  refine ⟨_, rfl, _, _, _, rfl, I1'.ins, rfl, H0, N, { D with Bs := od :: bd :: D.Bs }, M, rfl, I1', fun b' hb' => ?_⟩
  obtain ⟨zs, e, hzl⟩ := I1'.bs b' hb'
  refine ⟨.inl ⟨rfl, _, SqL.of e⟩, _, rfl, t, _, 1, a, rfl, rfl, SqT.of ht1', rfl, _, rfl, t, _, 2, b, rfl, rfl, SqT.of ht1', rfl, _, rfl, t, _, 3, c, rfl, rfl, SqT.of ht1', rfl, _, rfl, _, rfl, (show 6 ≤ sizeLine by decide), fun t2 ht2 => ?_⟩
  have s2 := same_upd ht2 (.tup [V.str "if", a, b, c, .ref bd, .ref od])
  have I2 := I1'.same s2
  have e2 := s2 _ _ e
  refine ⟨b', zs, _, rfl, rfl, e2, line3 (show _ ≤ 1001 by omega) (by decide), ?_⟩
  have I3 := I2.app hb' e2 hzl (.ref t2)
  generalize upd (upd H2 t2 (.tup [V.str "if", a, b, c, .ref bd, .ref od])) b' (.lst (zs ++ [.ref t2])) = H3 at I3 ⊢
  refine ⟨_, rfl, _, _, _, _, _, rfl, I3.ins, T.cl, T.nU, rfl, .inl ⟨rfl, _, SqL.of I3.un⟩, _, rfl, _, rfl, le3, fun t4 ht4 => ?_⟩
  have s4 := same_upd ht4 (.tup [V.str "if", .ref bd, .ref od])
  have I4 := I3.same s4
  refine ⟨_, _, _, rfl, rfl, I4.un, ?_, ?_⟩
  · rw [List.length_map, UnAt.len I4.ul]
    exact line3 (show _ ≤ 1001 from Nat.le_trans I4.len (by omega)) (by decide)
  · have hU := UnAt.snoc (u := (t4, bd, .ref od)) (k := "if") ⟨upd_same, List.mem_cons_of_mem _ List.mem_cons_self, fun _ => ⟨od, rfl, List.mem_cons_self⟩⟩ I4.ul
    have I5 := I4.setU hU (by rw [List.length_append, List.length_singleton]; have := I.len; omega)
    rw [List.map_append] at I5
    refine q' _ _ ?_ I5
    rfl
end
end Car

set_option maxHeartbeats 1000000
namespace Car
open PySem L2
theorem bt_set : bootBuiltins "set" = some (.type "set") := by decide +kernel
theorem nm_any (ns : List (Str × Nat)) (x : Str) : ((nmK ns).any fun kv => decide (kv.1 = kI x)) = ns.any fun p => decide (p.1 = x) := by
  unfold nmK
  rw [List.any_map]
  congr 1
  funext p
  exact kI_dec p.1 x
theorem nm_some (ns : List (Str × Nat)) (x : Str) : (valV (nmK ns) (kI x)).isSome = ns.any fun p => decide (p.1 = x) := by
  rw [← nm_any, valV_any]
theorem nm_put {ns : List (Str × Nat)} {x : Str} {n : Nat} (h : ¬ (ns.any fun p => decide (p.1 = x)) = true) : putK (nmK ns) (kI x) (.int n) = nmK (ns ++ [(x, n)]) := by
  unfold putK
  rw [nm_any, if_neg h]
  unfold nmK
  rw [List.map_append]
  rfl
section
variable {P : Program} {w : World} {K : PySem.W.Frag} {mg : Str → Option Value} {base : Heap} {C f : Addr} {fd' : FuncData} {ec : Er → Addr}
/-! begin_sub -/
noncomputable def spBS (C : Addr) (ec : Er → Addr) : Sp := fun vs H Q E => ∃ (H0 : Hp) (N : Nat) (A : DA) (M : DM) (x : Str) (l : Addr) (ns : List Str) (dup : Bool), vs = [.ref A.x, .str x, .ref l] ∧ DIn C H0 H N A M ∧ N ≤ 1000 ∧ H l = some (.lst (ns.map V.str)) ∧ ns.length ≤ 1000 ∧ (dup = true ↔ ¬ ns.Nodup) ∧ GoodN x ∧
  OutD C ec H0 A.x (N + 3) Q E (stepR M (.sub x ns.length dup))
theorem scBS : FnScope ["self", "name", "names", "body"] ["self", "name", "names"] (defScope (dr 5)) := ⟨rfl, rfl, rfl, by decide +kernel, rfl, by decide +kernel, by decide +kernel⟩
theorem ok_bs (L : LawT mg) (hset : mg "set" = none) (T : DrT K C) (X : EcT mg base ec) (F : Fun K "begin_sub" "Draft.begin_sub" (dr 5) f fd') : FnOk P w K mg base (CX1 P w) 1 f fd' ["self", "name", "names"] (spBS C ec) := by
  have nd := scBS.nd
  refine F.ok1 scBS (fun vs H Q E h => ?_) (fun cdv A outer s H vs Q E hr h => ?_)
  · obtain ⟨H0, N, A, M, x, l, ns, dup, rfl, _⟩ := h
    rfl
  obtain ⟨H0, N, D, M, x, l, ns, dup, rfl, I, hN, hl, hnl, hdup, gx, q⟩ := h
  have hu : (A.deeper (PyProof.Rows.envOfC "Draft.begin_sub" (defScope (dr 5)) s.heap.objs.size f cdv)).units + 1 < cLine := by have := hr.units; omega
  obtain ⟨bm, O1, FB1⟩ := X.own .place
  obtain ⟨bm2, O2, FB2⟩ := X.own .twice
  refine ⟨_, (pss_cons (ps_if (pt_truth (pe_fld (pv 0) rfl) (fun _ => rfl)) (pss_one (ps_raise O1 FB1 rfl rfl raises1 (pa_cons pe_str pa_nil))) pss_nil)
    (pss_mid (ps_if (PW.pt (pw_or (pt_cmp (pc_din hu (pv 1) (pe_fld (pv 0) rfl)) (by with_unfolding_all rfl)) (pw_or1 (pt_cmpR op_lt (pe_callB call_lenS rfl L.len PySem.boot_len (pa_cons (pe_callTy (call_setS rfl) rfl hset bt_set (pa_cons (pv 2) pa_nil)) pa_nil)) (pe_callB call_len_seq rfl L.len PySem.boot_len (pa_cons (pv 2) pa_nil)) (nomark _))))) (pss_one (ps_raise O2 FB2 rfl rfl raises1 (pa_cons (pe_fsR (pv 1) (by decide +kernel)) pa_nil))) pss_nil)
    (pss_cons (ps_set (i := 3) nd rfl (Or.inl rfl) (pe_lst pa_nil))
    (pss_cons (ps_dput hu (pe_fld (pv 0) rfl) (pv 1) (pe_callB call_len_seq rfl L.len PySem.boot_len (pa_cons (pv 2) pa_nil)) rfl)
    (pss_cons (ps_expr (pe_bm PySem.F.plainAttrs_list PySem.F.slot_list_append PySem.F.type_list_append mt_append (pe_fld (pv 0) rfl) (pa_cons (pe_tup (pa_cons (pv 1) (pa_cons (pv 2) (pa_cons (pv 3) pa_nil)))) pa_nil)))
    (pss_one (ps_expr (pe_bm PySem.F.plainAttrs_list PySem.F.slot_list_append PySem.F.type_list_append mt_append (pe_fld (pv 0) rfl) (pa_cons (pe_tup (pa_cons pe_str (pa_cons (pv 3) (pa_cons pe_non pa_nil)))) pa_nil))))))))), ?_⟩
  have q' : OutD C ec H0 D.x (N + 3) Q E (if M.un ≠ [] then .error .place else if (M.names.any fun p => decide (p.1 = x)) = true ∨ dup = true then .error .twice else .ok { M with un := [("sub" : Str)], names := M.names ++ [(x, ns.length)] }) := q
  refine ⟨_, rfl, _, _, _, _, _, rfl, I.ins, T.cl, T.nU, rfl, _, .inl ⟨_, SqL.of I.un, rfl⟩, ?_⟩
  have hlen := UnAt.len I.ul
  by_cases hu0 : M.un = []
  · have e0 : D.us = [] := List.length_eq_zero_iff.mp (by rw [hlen, hu0]; rfl)
    rw [if_neg (fun h => h hu0)] at q'
    rw [e0]
    refine iteF ?_
    refine ⟨fun σ H1 => σ = [some (.ref D.x), some (.str x), some (.ref l), none] ∧ DIn C H0 H1 N D M ∧ H1 l = some (.lst (ns.map V.str)) ∧ ¬ ((M.names.any fun p => decide (p.1 = x)) = true ∨ dup = true), ?_, ?_⟩
    · refine ⟨_, rfl, _, rfl, _, _, _, _, _, rfl, I.ins, T.cl, T.nN, rfl, D.aN, _, rfl, DGet.k (k := kI x) I.nm, _, rfl, ?_⟩
      rw [nm_some]
      have tw : ∀ H', Same H0 H' → ((M.names.any fun p => decide (p.1 = x)) = true ∨ dup = true) → E (.ref (ec .twice)) none H' := fun H' s h => by
        rw [if_pos h] at q'
        exact q' H' s
      cases hin : (M.names.any fun p => decide (p.1 = x)) with
      | true => exact iteT (iteT ⟨_, rfl, x, rfl, (name_wo gx).1, (name_wo gx).2, fun y => ⟨le1, tw H I.sm (.inl hin)⟩⟩)
      | false =>
        refine iteF ⟨_, rfl, l, ns, rfl, SqL.of hl, hnl, fun Dd hDd => ?_⟩
        have s1 := same_upd hDd (StrS P w Dd (met ns).length)
        have I1 := I.same s1
        have hml := met_len ns
        refine ⟨Dd, _, rfl, upd_same, by omega, _, rfl, l, _, rfl, .inl (SqL.of (s1 _ _ hl)), _, _, rfl, rfl, _, rfl, ?_⟩
        rw [List.length_map]
        have eb : decide ((((met ns).length : Nat) : Int) < ((ns.length : Nat) : Int)) = dup := by
          cases dup with
          | true =>
            have h := hdup.mp rfl
            exact decide_eq_true (by have : (met ns).length ≠ ns.length := fun z => h (hml.2.mp z); omega)
          | false =>
            have h : ns.Nodup := Classical.byContradiction fun z => by have := hdup.mpr z; cases this
            exact decide_eq_false (by have := hml.2.mpr h; omega)
        rw [eb]
        cases hdd : dup with
        | true => exact iteT ⟨_, rfl, x, rfl, (name_wo gx).1, (name_wo gx).2, fun y => ⟨le1, tw _ I1.sm (.inr hdd)⟩⟩
        | false => exact iteF ⟨rfl, I1, s1 _ _ hl, fun z => by
            rcases z with z | z
            · cases z
            · cases z⟩
    rintro σ H1 ⟨rfl, I1, hl1, hno⟩
    rw [if_neg hno] at q'
    refine ⟨Nat.zero_le _, fun bd hbd => ?_⟩
    have I2 := I1.newB hbd
    have hl2 := same_upd hbd (.lst []) _ _ hl1
    generalize upd H1 bd (.lst []) = H2 at I2 hl2 ⊢
    refine ⟨_, rfl, l, _, rfl, .inl (SqL.of hl2), _, rfl, _, _, _, _, _, rfl, I2.ins, T.cl, T.nN, rfl, _, rfl, D.aN, _, rfl, .inl ⟨_, kI x, I2.nm, rfl, ?_, rfl⟩, ?_⟩
    · unfold nmK
      rw [List.length_map]
      exact line3 (Nat.le_trans I2.nln hN) (by decide)
    rw [List.length_map, nm_put (fun z => hno (.inl z))]
    have I3 := I2.addN (x, ns.length)
    generalize upd H2 D.aN (.dK (nmK (M.names ++ [(x, ns.length)]))) = H3 at I3 ⊢
    obtain ⟨zs, e, hzl⟩ := I3.bs D.aS I3.iS
    refine ⟨_, rfl, _, _, _, _, _, rfl, I3.ins, T.cl, T.nS, rfl, .inl ⟨rfl, _, SqL.of e⟩, _, rfl, _, rfl, _, rfl, le3, fun t2 ht2 => ?_⟩
    have s3 := same_upd ht2 (.tup [V.str x, .ref l, .ref bd])
    have e3 := s3 _ _ e
    refine ⟨D.aS, zs, _, rfl, rfl, e3, line3 (show _ ≤ 1001 by omega) (by decide), ?_⟩
    have I4 := (I3.same s3).app I3.iS e3 hzl (.ref t2)
    generalize upd (upd H3 t2 (.tup [V.str x, .ref l, .ref bd])) D.aS (.lst (zs ++ [.ref t2])) = H4 at I4 ⊢
    refine ⟨_, rfl, _, _, _, _, _, rfl, I4.ins, T.cl, T.nU, rfl, .inl ⟨rfl, _, SqL.of I4.un⟩, _, rfl, le3, fun t5 ht5 => ?_⟩
    have s5 := same_upd ht5 (.tup [V.str "sub", .ref bd, .non])
    have I5 := I4.same s5
    have hus : D.us = [] := e0
    refine ⟨_, _, _, rfl, rfl, I5.un, ?_, ?_⟩
    · show (D.us.map fun u => V.ref u.1).length < sizeLine
      rw [hus]
      decide
    · have hU : UnAt (upd H4 t5 (.tup [V.str "sub", .ref bd, .non])) (bd :: D.Bs) [(t5, bd, .non)] [("sub" : Str)] := ⟨⟨upd_same, List.mem_cons_self, fun h => absurd h (by decide +kernel)⟩, trivial⟩
      have I6 := I5.setU hU (by show 1 ≤ _; omega)
      have eq : (D.us.map fun u => V.ref u.1) ++ [V.ref t5] = [V.ref t5] := by rw [hus]; rfl
      show Q .non (upd _ D.aU (.lst ((D.us.map fun u => V.ref u.1) ++ [V.ref t5])))
      rw [eq]
      refine q' _ _ ?_ I6
      rfl
  · rw [if_pos hu0] at q'
    have e : (!(D.us.map fun u => V.ref u.1).isEmpty) = true := by
      cases hD : D.us with
      | nil => rw [hD] at hlen; exact absurd (List.length_eq_zero_iff.mp hlen.symm) hu0
      | cons a r => rfl
    rw [e]
    exact iteT ⟨le1, q' H I.sm⟩
/-! turn_to_else, end_body, look_at_end -/
noncomputable def spBr (C : Addr) (ec : Er → Addr) (rk : Rk) : Sp := fun vs H Q E => ∃ (H0 : Hp) (N : Nat) (A : DA) (M : DM), vs = [.ref A.x] ∧ DIn C H0 H N A M ∧ N ≤ 1000 ∧ OutD C ec H0 A.x (N + 2) Q E (stepR M rk)
theorem scEl : FnScope ["self", "ended"] ["self"] (defScope (dr 8)) := ⟨rfl, rfl, rfl, by decide +kernel, rfl, by decide +kernel, by decide +kernel⟩
theorem pop_last {xs : List V} {v : V} : (xs ++ [v])[(xs ++ [v]).length - 1]? = some v := by simp
theorem ok_el (T : DrT K C) (X : EcT mg base ec) (F : Fun K "turn_to_else" "Draft.turn_to_else" (dr 8) f fd') : FnOk P w K mg base (CX1 P w) 1 f fd' ["self"] (spBr C ec .els) := by
  have nd := scEl.nd
  refine F.ok1 scEl (fun vs H Q E h => ?_) (fun cdv A outer s H vs Q E hr h => ?_)
  · obtain ⟨H0, N, A, M, rfl, _⟩ := h
    rfl
  obtain ⟨H0, N, D, M, rfl, I, hN, q⟩ := h
  obtain ⟨bm, O1, FB1⟩ := X.own .place
  refine ⟨_, (pss_mid (ps_if (PW.pt (pw_or (pt_not (pt_truth (pe_fld (pv 0) rfl) (fun _ => rfl))) (pw_or1 (pt_cmpR op_ne (pe_ix ix_tup (pe_ix (ix_listK (K := K) rfl) (pe_fld (pv 0) rfl) (pe_un un_neg pe_int) (fun _ _ => rfl)) pe_int (fun _ _ => rfl)) pe_str (nomark _))))) (pss_one (ps_raise O1 FB1 rfl rfl raises1 (pa_cons pe_str pa_nil))) pss_nil)
    (pss_cons (ps_set (i := 1) nd rfl (Or.inl rfl) (pe_bm0 PySem.F.plainAttrs_list PySem.F.slot_list_pop PySem.F.type_list_pop mt_pop (pe_fld (pv 0) rfl)))
    (pss_one (ps_expr (pe_bm PySem.F.plainAttrs_list PySem.F.slot_list_append PySem.F.type_list_append mt_append (pe_fld (pv 0) rfl) (pa_cons (pe_tup (pa_cons pe_str (pa_cons (pe_ix ix_tup (pv 1) pe_int (fun _ _ => rfl)) (pa_cons pe_non pa_nil)))) pa_nil)))))), ?_⟩
  have q' : OutD C ec H0 D.x (N + 2) Q E (if M.un.getLast? = some ("if" : Str) then .ok { M with un := M.un.dropLast ++ [("else" : Str)] } else .error .place) := q
  refine ⟨fun σ H1 => σ = [some (.ref D.x), none] ∧ H1 = H ∧ M.un.getLast? = some ("if" : Str), ?_, ?_⟩
  · refine ⟨_, rfl, _, _, _, _, _, rfl, I.ins, T.cl, T.nU, rfl, _, .inl ⟨_, SqL.of I.un, rfl⟩, ?_⟩
    rcases List.eq_nil_or_concat M.un with hu | ⟨ks, k, hu⟩
    · have hul := I.ul
      rw [hu] at hul
      rw [List.length_eq_zero_iff.mp (UnAt.len hul)]
      rw [hu, if_neg (by simp)] at q'
      exact iteT (iteT ⟨le1, q' H I.sm⟩)
    · have hul := I.ul
      rw [List.concat_eq_append] at hu
      rw [hu] at hul
      obtain ⟨vs, u, eu, h1, h2, h3, h4⟩ := hul.last
      have e : (!(D.us.map fun u => V.ref u.1).isEmpty) = true := by rw [eu]; simp
      rw [e]
      have hat : atI (D.us.map fun u => V.ref u.1) (-1) = some (.ref u.1) := by
        rw [eu, List.map_append]
        exact last_some
      refine iteF ⟨_, rfl, _, _, _, _, _, rfl, I.ins, T.cl, T.nU, rfl, _, rfl, _, _, -1, .ref u.1, rfl, rfl, SqL.of I.un, hat, u.1, _, 0, .str k, rfl, rfl, SqT.of h2, rfl, rfl, _, rfl, ?_⟩
      rw [decS]
      have hgl : M.un.getLast? = some k := by rw [hu, List.getLast?_concat]
      by_cases hk : k = "if"
      · rw [decide_eq_true hk]
        exact iteF ⟨rfl, rfl, by rw [hgl, hk]⟩
      · rw [decide_eq_false hk]
        rw [hgl, if_neg (fun z => hk (Option.some.inj z))] at q'
        exact iteT ⟨le1, q' H I.sm⟩
  rintro σ H1 ⟨rfl, rfl, hgl⟩
  rw [if_pos hgl] at q'
  obtain ⟨ks, hks⟩ := List.getLast?_eq_some_iff.mp hgl
  have hul := I.ul
  rw [hks] at hul
  obtain ⟨vs, u, eu, h1, h2, h3, h4⟩ := hul.last
  obtain ⟨ob, eo, hob⟩ := h4 rfl
  have hgt : (D.us.map fun u => V.ref u.1)[(D.us.map fun u => V.ref u.1).length - 1]? = some (.ref u.1) := by
    rw [eu, List.map_append]
    exact pop_last
  refine ⟨_, rfl, _, _, _, _, _, rfl, I.ins, T.cl, T.nU, rfl, .inl ⟨rfl, _, SqL.of I.un⟩, D.aU, _, .ref u.1, rfl, rfl, I.un, hgt, ?_⟩
  have hdl : (D.us.map fun u => V.ref u.1).dropLast = vs.map fun u => V.ref u.1 := by
    rw [eu, List.map_append]
    exact List.dropLast_concat
  rw [hdl]
  have hln : ks.length ≤ N := by have := I.len; rw [hks, List.length_append] at this; omega
  have I2 := I.setU h1 (by omega)
  have hu2 : upd H1 D.aU (.lst (vs.map fun u => V.ref u.1)) u.1 = some (.tup [.str "if", .ref u.2.1, u.2.2]) := by
    rw [upd_ne (lst_ne I.un h2 fun _ h => by cases h)]
    exact h2
  generalize upd H1 D.aU (.lst (vs.map fun u => V.ref u.1)) = H2 at I2 hu2 ⊢
  refine ⟨_, rfl, _, _, _, _, _, rfl, I2.ins, T.cl, T.nU, rfl, .inl ⟨rfl, _, SqL.of I2.un⟩, _, rfl, u.1, _, 2, u.2.2, rfl, rfl, SqT.of hu2, rfl, le3, fun t ht => ?_⟩
  have s3 := same_upd ht (.tup [V.str "else", u.2.2, .non])
  have I3 := I2.same s3
  refine ⟨D.aU, _, _, rfl, rfl, I3.un, ?_, ?_⟩
  · show (vs.map fun u => V.ref u.1).length < sizeLine
    rw [List.length_map, UnAt.len h1]
    exact line3 (Nat.le_trans hln hN) (by decide)
  · have hU := UnAt.snoc (u := (t, ob, .non)) (k := "else") ⟨by rw [upd_same, eo], hob, fun h => absurd h (by decide +kernel)⟩ I3.ul
    have I4 := I3.setU hU (by rw [List.length_append, List.length_singleton]; show ks.length + 1 ≤ _; omega)
    rw [List.map_append] at I4
    have ed : M.un.dropLast = ks := by rw [hks, List.dropLast_concat]
    rw [ed] at q'
    refine q' _ _ ?_ I4
    rfl
theorem scEn : FnScope ["self"] ["self"] (defScope (dr 9)) := ⟨rfl, rfl, rfl, by decide +kernel, rfl, by decide +kernel, by decide +kernel⟩
theorem ok_en (T : DrT K C) (X : EcT mg base ec) (F : Fun K "end_body" "Draft.end_body" (dr 9) f fd') : FnOk P w K mg base (CX1 P w) 1 f fd' ["self"] (spBr C ec .fin) := by
  have nd := scEn.nd
  refine F.ok1 scEn (fun vs H Q E h => ?_) (fun cdv A outer s H vs Q E hr h => ?_)
  · obtain ⟨H0, N, A, M, rfl, _⟩ := h
    rfl
  obtain ⟨H0, N, D, M, rfl, I, hN, q⟩ := h
  obtain ⟨bm, O1, FB1⟩ := X.own .place
  refine ⟨_, (pss_cons (ps_if (pt_not (pt_truth (pe_fld (pv 0) rfl) (fun _ => rfl))) (pss_one (ps_raise O1 FB1 rfl rfl raises1 (pa_cons pe_str pa_nil))) pss_nil)
    (pss_one (ps_expr (pe_bm0 PySem.F.plainAttrs_list PySem.F.slot_list_pop PySem.F.type_list_pop mt_pop (pe_fld (pv 0) rfl))))), ?_⟩
  have q' : OutD C ec H0 D.x (N + 2) Q E (if M.un = [] then .error .place else .ok { M with un := M.un.dropLast }) := q
  refine ⟨_, rfl, _, _, _, _, _, rfl, I.ins, T.cl, T.nU, rfl, _, .inl ⟨_, SqL.of I.un, rfl⟩, ?_⟩
  rcases List.eq_nil_or_concat M.un with hu | ⟨ks, k, hu⟩
  · have hul := I.ul
    rw [hu] at hul
    rw [List.length_eq_zero_iff.mp (UnAt.len hul)]
    rw [if_pos hu] at q'
    exact iteT ⟨le1, q' H I.sm⟩
  · have hul := I.ul
    rw [List.concat_eq_append] at hu
    rw [hu] at hul
    obtain ⟨vs, u, eu, h1, h2, h3, h4⟩ := hul.last
    have e : (!(D.us.map fun u => V.ref u.1).isEmpty) = true := by rw [eu]; simp
    rw [e]
    rw [if_neg (by rw [hu]; simp)] at q'
    have hgt : (D.us.map fun u => V.ref u.1)[(D.us.map fun u => V.ref u.1).length - 1]? = some (.ref u.1) := by
      rw [eu, List.map_append]
      exact pop_last
    have hdl : (D.us.map fun u => V.ref u.1).dropLast = vs.map fun u => V.ref u.1 := by
      rw [eu, List.map_append]
      exact List.dropLast_concat
    refine iteF ⟨_, rfl, _, _, _, _, _, rfl, I.ins, T.cl, T.nU, rfl, .inl ⟨rfl, _, SqL.of I.un⟩, D.aU, _, .ref u.1, rfl, rfl, I.un, hgt, ?_⟩
    rw [hdl]
    have hln : ks.length ≤ N := by have := I.len; rw [hu, List.length_append] at this; omega
    have I2 := (I.setU h1 (by omega)).mono (show N + 1 ≤ N + 2 by omega)
    have ed : M.un.dropLast = ks := by rw [hu, List.dropLast_concat]
    rw [ed] at q'
    refine q' _ _ ?_ I2
    rfl
noncomputable def spEnd (C : Addr) (ec : Er → Addr) : Sp := fun vs H Q E => ∃ (H0 : Hp) (N : Nat) (A : DA) (M : DM), vs = [.ref A.x] ∧ DIn C H0 H N A M ∧ (M.un ≠ [] → ∀ H', Same H0 H' → E (.ref (ec .opn)) none H') ∧ (M.un = [] → Q .non H)
theorem scLE : FnScope ["self"] ["self"] (defScope (dr 10)) := ⟨rfl, rfl, rfl, by decide +kernel, rfl, by decide +kernel, by decide +kernel⟩
theorem ok_le (T : DrT K C) (X : EcT mg base ec) (F : Fun K "look_at_end" "Draft.look_at_end" (dr 10) f fd') : FnOk P w K mg base (CX1 P w) 1 f fd' ["self"] (spEnd C ec) := by
  have nd := scLE.nd
  refine F.ok1 scLE (fun vs H Q E h => ?_) (fun cdv A outer s H vs Q E hr h => ?_)
  · obtain ⟨H0, N, A, M, rfl, _⟩ := h
    rfl
  obtain ⟨H0, N, D, M, rfl, I, q1, q2⟩ := h
  obtain ⟨bm, O1, FB1⟩ := X.own .opn
  refine ⟨_, (pss_one (ps_if (pt_truth (pe_fld (pv 0) rfl) (fun _ => rfl)) (pss_one (ps_raise O1 FB1 rfl rfl raises1 (pa_cons pe_str pa_nil))) pss_nil)), ?_⟩
  refine ⟨_, rfl, _, _, _, _, _, rfl, I.ins, T.cl, T.nU, rfl, _, .inl ⟨_, SqL.of I.un, rfl⟩, ?_⟩
  have hlen := UnAt.len I.ul
  cases hD : D.us with
  | nil =>
    rw [hD] at hlen
    exact iteF (q2 (List.length_eq_zero_iff.mp hlen.symm))
  | cons a r =>
    rw [hD] at hlen
    exact iteT ⟨le1, q1 (fun z => by rw [z] at hlen; cases hlen) H I.sm⟩
end
end Car

set_option maxHeartbeats 2000000
namespace Car
open PySem L2
noncomputable def nmOf (ns : List (Str × Nat)) (x : Str) : Option Nat := (ns.find? fun p => decide (p.1 = x)).map (·.2)
theorem nm_val (ns : List (Str × Nat)) (x : Str) : valV (nmK ns) (kI x) = (nmOf ns x).map fun (n : Nat) => V.int (n : Int) := by
  unfold valV nmK nmOf
  rw [List.find?_map, Option.map_map, Option.map_map]
  have e : ((fun kv : Key × V => decide (kv.1 = kI x)) ∘ fun p : Str × Nat => (kI p.1, V.int (p.2 : Int))) = fun p => decide (p.1 = x) := by
    funext p
    exact kI_dec p.1 x
  rw [e]
  rfl
noncomputable def badC (M : DM) (ps : List (Str × Nat)) : Bool := ps.any fun p => !decide (nmOf M.names p.1 = some p.2)
theorem CaAt.get {H : Hp} {Bs : List Addr} {aU aC : Addr} : ∀ {cs : List (Addr × Addr)} {ps : List (Str × Nat)} {i : Nat} {x : V}, CaAt H Bs aU aC cs ps → (cs.map fun c => V.ref c.1)[i]? = some x → ∃ (c : Addr × Addr) (p : Str × Nat), x = .ref c.1 ∧ ps[i]? = some p ∧ H c.1 = some (.tup [.str "call", .str p.1, .ref c.2]) ∧ ∃ es, H c.2 = some (.lst es) ∧ es.length = p.2
  | [], _, _, _, _, h => by simp at h
  | _ :: _, [], _, _, h, _ => by cases h
  | c :: cs, p :: ps, 0, x, h, hx => by
    have e : x = .ref c.1 := by simpa using hx.symm
    exact ⟨c, p, e, rfl, h.1.1, h.1.2.1⟩
  | c :: cs, p :: ps, i + 1, x, h, hx => by
    obtain ⟨c', p', h1, h2, h3, h4⟩ := CaAt.get (i := i) h.2 (by simpa using hx)
    exact ⟨c', p', h1, by simpa using h2, h3, h4⟩
section
variable {P : Program} {w : World} {K : PySem.W.Frag} {mg : Str → Option Value} {base : Heap} {C CN f : Addr} {fd' : FuncData} {ec : Er → Addr}
/-! look_at_calls -/
noncomputable def spLC (C : Addr) (ec : Er → Addr) : Sp := fun vs H Q E => ∃ (H0 : Hp) (N : Nat) (A : DA) (M : DM), vs = [.ref A.x] ∧ DIn C H0 H N A M ∧ (∀ p ∈ M.calls, GoodN p.1) ∧ (badC M M.calls = true → ∀ H', Same H0 H' → E (.ref (ec .sub)) none H') ∧ (badC M M.calls = false → Q .non H)
theorem scLC : FnScope ["self", "call", "name"] ["self"] (defScope (dr 11)) := ⟨rfl, rfl, rfl, by decide +kernel, rfl, by decide +kernel, by decide +kernel⟩
theorem ok_lc (L : LawT mg) (T : DrT K C) (X : EcT mg base ec) (F : Fun K "look_at_calls" "Draft.look_at_calls" (dr 11) f fd') : FnOk P w K mg base (CX1 P w) 1 f fd' ["self"] (spLC C ec) := by
  have nd := scLC.nd
  refine F.ok1 scLC (fun vs H Q E h => ?_) (fun cdv A outer s H vs Q E hr h => ?_)
  · obtain ⟨H0, N, A, M, rfl, _⟩ := h
    rfl
  obtain ⟨H0, N, D, M, rfl, I, gn, q1, q2⟩ := h
  have hu : (A.deeper (PyProof.Rows.envOfC "Draft.look_at_calls" (defScope (dr 11)) s.heap.objs.size f cdv)).units + 1 < cLine := by have := hr.units; omega
  obtain ⟨bm, O1, FB1⟩ := X.own .sub
  refine ⟨_, (pss_one (ps_for own1 rfl (pi_list (pe_fld (pv 0) rfl)) (pg_name (i := 1) nd rfl (Or.inl rfl)) (pss_cons (ps_set (i := 2) nd rfl (Or.inl rfl) (pe_ix ix_tup (pv 1) pe_int (fun _ _ => rfl)))
    (pss_one (ps_if (PW.pt (pw_or (pt_cmp (pc_dnotin hu (pv 2) (pe_fld (pv 0) rfl)) (by with_unfolding_all rfl)) (pw_or1 (pt_cmpR op_ne (pe_dget hu (pe_fld (pv 0) rfl) (pv 2) (fun _ _ => rfl)) (pe_callB call_len_seq rfl L.len PySem.boot_len (pa_cons (pe_ix ix_tup (pv 1) pe_int (fun _ _ => rfl)) pa_nil)) (nomark _))))) (pss_one (ps_raise O1 FB1 rfl rfl raises1 (pa_cons (pe_fsR (pv 2) (by decide +kernel)) pa_nil))) pss_nil))))), ?_⟩
  refine ⟨_, rfl, _, _, _, _, _, rfl, I.ins, T.cl, T.nC, rfl, D.aC, rfl, ⟨_, SqL.of I.ca⟩, ?_⟩
  have hlen := CaAt.len I.cl
  refine for_list (K := K) (a := D.aC) (xs := D.cs.map fun c => V.ref c.1) (fun i σ Hc => ∃ o1 o2 : Option V, σ = [some (.ref D.x), o1, o2] ∧ Hc = H ∧ badC M (M.calls.take i) = false) ⟨none, none, rfl, rfl, rfl⟩ (fun i σ Hc _ ⟨_, _, _, e, _⟩ => by rw [e]; exact SqL.of I.ca) ?_ ?_
  · rintro i y σ Hc hy ⟨o1, o2, rfl, rfl, hb⟩
    obtain ⟨c, p, rfl, hp, h1, es, h2, h3⟩ := I.cl.get hy
    have gp := name_wo (gn p (List.mem_of_getElem? hp))
    have tk : M.calls.take (i + 1) = M.calls.take i ++ [p] := by
      obtain ⟨hl, e⟩ := List.getElem?_eq_some_iff.mp hp
      rw [List.take_succ_eq_append_getElem hl, e]
    have bad : nmOf M.names p.1 ≠ some p.2 → badC M M.calls = true := fun h => by
      unfold badC
      rw [List.any_eq_true]
      exact ⟨p, List.mem_of_getElem? hp, by rw [decide_eq_false h]; rfl⟩
    have good : nmOf M.names p.1 = some p.2 → badC M (M.calls.take (i + 1)) = false := fun h => by
      rw [tk]
      unfold badC at hb ⊢
      rw [List.any_append, hb, List.any_cons, List.any_nil, decide_eq_true h]
      rfl
    refine ⟨_, rfl, c.1, _, 1, .str p.1, rfl, rfl, SqT.of h1, rfl, ?_⟩
    refine ⟨_, rfl, _, rfl, _, _, _, _, _, rfl, I.ins, T.cl, T.nN, rfl, D.aN, _, rfl, DGet.k (k := kI p.1) I.nm, _, rfl, ?_⟩
    rw [nm_val]
    cases hn : nmOf M.names p.1 with
    | none => exact iteT (iteT ⟨_, rfl, p.1, rfl, gp.1, gp.2, fun z => ⟨le1, q1 (bad (by rw [hn]; simp)) _ I.sm⟩⟩)
    | some m =>
      have dg : DGet Hc D.aN (.str p.1) (some (.int (m : Int))) := by
        have := DGet.k (k := kI p.1) I.nm
        rw [nm_val, hn] at this
        exact this
      refine iteF ⟨_, rfl, _, _, _, _, _, rfl, I.ins, T.cl, T.nN, rfl, _, rfl, D.aN, _, rfl, dg, _, rfl, c.1, _, 2, .ref c.2, rfl, rfl, SqT.of h1, rfl, c.2, es, rfl, .inl (SqL.of h2), rfl, _, rfl, ?_⟩
      rw [h3]
      have e : decide (V.int (m : Int) = V.int (p.2 : Int)) = decide (m = p.2) := by
        by_cases h : m = p.2
        · rw [decide_eq_true h, decide_eq_true (by rw [h])]
        · rw [decide_eq_false h, decide_eq_false (fun z => h (by injection z with z; omega))]
      rw [e]
      by_cases h : m = p.2
      · rw [decide_eq_true h]
        exact iteF ⟨_, _, rfl, rfl, good (by rw [hn, h])⟩
      · rw [decide_eq_false h]
        exact iteT ⟨_, rfl, p.1, rfl, gp.1, gp.2, fun z => ⟨le1, q1 (bad (by rw [hn]; exact fun z => h (Option.some.inj z))) _ I.sm⟩⟩
  · rintro σ Hc ⟨o1, o2, rfl, rfl, hb⟩
    rw [List.length_map, hlen, List.take_length] at hb
    exact q2 hb
/-! put -/
noncomputable def RkOk : Rk → Prop
  | .call x _ => GoodN x
  | .sub x _ _ => GoodN x
  | _ => True
noncomputable def spPut (C : Addr) (ec : Er → Addr) : Sp := fun vs H Q E => ∃ (H0 Hp : Hp) (N : Nat) (A : DA) (M : DM) (v : V) (rk : Rk), vs = [.ref A.x, v] ∧ DIn C H0 Hp N A M ∧ Same Hp H ∧ N ≤ 1000 ∧ RowAt Hp H v rk ∧ RkOk rk ∧ (∀ x n d, rk = .sub x n d → n ≤ 1000) ∧ OutD C ec H0 A.x (N + 3) Q E (stepR M rk)
theorem scPut : FnScope ["self", "row", "word"] ["self", "row"] (defScope (dr 1)) := ⟨rfl, rfl, rfl, by decide +kernel, rfl, by decide +kernel, by decide +kernel⟩
theorem OutD.mono {H0 : Hp} {x : Addr} {N N' : Nat} {Q : VK} {E : XK} (h : N ≤ N') : ∀ {r : Except Er DM}, OutD C ec H0 x N' Q E r → OutD C ec H0 x N Q E r
  | .ok _, q => fun A' H' e I => q A' H' e (I.mono h)
  | .error _, q => q
theorem ok_put (T : DrT K C) (MS : Mt P w K mg base C "begin_sub" 1 ["self", "name", "names"] (spBS C ec)) (MT : Mt P w K mg base C "begin_times" 2 ["self", "row"] (spBody C ec .times)) (MF : Mt P w K mg base C "begin_if" 2 ["self", "row"] (spBody C ec .iff)) (ML : Mt P w K mg base C "turn_to_else" 1 ["self"] (spBr C ec .els)) (ME : Mt P w K mg base C "end_body" 1 ["self"] (spBr C ec .fin)) (MP : Mt P w K mg base C "put_plain" 2 ["self", "row"] (spPlain C))
    (F : Fun K "put" "Draft.put" (dr 1) f fd') : FnOk P w K mg base (CX1 P w) 3 f fd' ["self", "row"] (spPut C ec) := by
  have nd := scPut.nd
  refine F.ok1 scPut (fun vs H Q E h => ?_) (fun cdv A outer s H vs Q E hr h => ?_)
  · obtain ⟨H0, Hp, N, A, M, v, rk, rfl, _⟩ := h
    rfl
  obtain ⟨H0, Hp, N, D, M, v, rk, rfl, I0, s0, hN, ra, hok, hsub, q⟩ := h
  have hr1 : Room 1 _ := hr.mono (by decide)
  have I := I0.same s0
  refine ⟨_, (pss_cons (ps_set (i := 2) nd rfl (Or.inl rfl) (pe_ix ix_tup (pv 1) pe_int (fun _ _ => rfl)))
    (pss_one (ps_if (pt_cmpR op_eq (pv 2) pe_str (nomark _)) (pss_one (ps_expr (pf_meth MS (pv 0) hr1 (pass1 (E := E)) (pa_cons (pe_ix ix_tup (pv 1) pe_int (fun _ _ => rfl)) (pa_cons (pe_ix ix_tup (pv 1) pe_int (fun _ _ => rfl)) pa_nil)))))
    (pss_one (ps_if (pt_cmpR op_eq (pv 2) pe_str (nomark _)) (pss_one (ps_expr (pf_meth MT (pv 0) hr (pass1 (E := E)) (pa_cons (pv 1) pa_nil))))
    (pss_one (ps_if (pt_cmpR op_eq (pv 2) pe_str (nomark _)) (pss_one (ps_expr (pf_meth MF (pv 0) hr (pass1 (E := E)) (pa_cons (pv 1) pa_nil))))
    (pss_one (ps_if (pt_cmpR op_eq (pv 2) pe_str (nomark _)) (pss_one (ps_expr (pf_meth0 ML (pv 0) hr1 (pass1 (E := E)))))
    (pss_one (ps_if (pt_cmpR op_eq (pv 2) pe_str (nomark _)) (pss_one (ps_expr (pf_meth0 ME (pv 0) hr1 (pass1 (E := E)))))
    (pss_one (ps_expr (pf_meth MP (pv 0) hr (pass1 (E := E)) (pa_cons (pv 1) pa_nil))))))))))))))), ?_⟩
  -- the words asked for, one by one
  cases rk with
  | bad => exact (show False from ra).elim
  | plain =>
    obtain ⟨t, k, xs, rfl, ht, hk⟩ := id ra
    have hne : k ≠ "sub" ∧ k ≠ "times" ∧ k ≠ "if" ∧ k ≠ "else" ∧ k ≠ "end" := by rcases hk with rfl | rfl | rfl <;> decide +kernel
    refine ⟨_, rfl, t, _, 0, .str k, rfl, rfl, SqT.of ht, at0, _, rfl, rfl, _, rfl, ?_⟩
    rw [decS, decide_eq_false hne.1]
    refine iteF ⟨_, rfl, rfl, _, rfl, ?_⟩
    rw [decS, decide_eq_false hne.2.1]
    refine iteF ⟨_, rfl, rfl, _, rfl, ?_⟩
    rw [decS, decide_eq_false hne.2.2.1]
    refine iteF ⟨_, rfl, rfl, _, rfl, ?_⟩
    rw [decS, decide_eq_false hne.2.2.2.1]
    refine iteF ⟨_, rfl, rfl, _, rfl, ?_⟩
    rw [decS, decide_eq_false hne.2.2.2.2]
    refine iteF ⟨_, rfl, _, _, _, rfl, I.ins, rfl, _, rfl, H0, Hp, N, D, M, _, .plain, rfl, I0, s0, hN, ra, .inl rfl, fun M' hM' A' H' ex I' => ?_⟩
    rw [hM'] at q
    exact q A' H' ex (I'.mono (by omega))
  | call x n =>
    obtain ⟨t, l, es, rfl, ht, _⟩ := id ra
    have hne : ("call" : Str) ≠ "sub" ∧ ("call" : Str) ≠ "times" ∧ ("call" : Str) ≠ "if" ∧ ("call" : Str) ≠ "else" ∧ ("call" : Str) ≠ "end" := by decide +kernel
    refine ⟨_, rfl, t, _, 0, .str "call", rfl, rfl, SqT.of ht, at0, _, rfl, rfl, _, rfl, ?_⟩
    rw [decS, decide_eq_false hne.1]
    refine iteF ⟨_, rfl, rfl, _, rfl, ?_⟩
    rw [decS, decide_eq_false hne.2.1]
    refine iteF ⟨_, rfl, rfl, _, rfl, ?_⟩
    rw [decS, decide_eq_false hne.2.2.1]
    refine iteF ⟨_, rfl, rfl, _, rfl, ?_⟩
    rw [decS, decide_eq_false hne.2.2.2.1]
    refine iteF ⟨_, rfl, rfl, _, rfl, ?_⟩
    rw [decS, decide_eq_false hne.2.2.2.2]
    refine iteF ⟨_, rfl, _, _, _, rfl, I.ins, rfl, _, rfl, H0, Hp, N, D, M, _, .call x n, rfl, I0, s0, hN, ra, .inr ⟨x, n, rfl⟩, fun M' hM' A' H' ex I' => ?_⟩
    rw [hM'] at q
    exact q A' H' ex (I'.mono (by omega))
  | sub x n dup =>
    obtain ⟨t, l, ns, rfl, ht, hl0, hl1, hn, hdup⟩ := id ra
    subst hn
    exact ⟨_, rfl, t, _, 0, .str "sub", rfl, rfl, SqT.of ht, rfl, _, rfl, rfl, _, rfl, iteT ⟨_, rfl, _, _, _, rfl, I.ins, rfl, _, rfl, t, _, 1, .str x, rfl, rfl, SqT.of ht, rfl, _, rfl, t, _, 2, .ref l, rfl, rfl, SqT.of ht, rfl, H0, N, D, M, x, l, ns, dup, rfl, I, hN, hl1, hsub _ _ _ rfl, hdup, hok, q⟩⟩
  | times =>
    obtain ⟨t, a, b, rfl, ht⟩ := id ra
    exact ⟨_, rfl, t, _, 0, .str "times", rfl, rfl, SqT.of ht, rfl, _, rfl, rfl, _, rfl, iteF ⟨_, rfl, rfl, _, rfl, iteT ⟨_, rfl, _, _, _, rfl, I.ins, rfl, _, rfl, H0, Hp, N, D, M, _, rfl, I0, s0, hN, ra, q.mono (by omega)⟩⟩⟩
  | iff =>
    obtain ⟨t, a, b, c, rfl, ht⟩ := id ra
    exact ⟨_, rfl, t, _, 0, .str "if", rfl, rfl, SqT.of ht, rfl, _, rfl, rfl, _, rfl, iteF ⟨_, rfl, rfl, _, rfl, iteF ⟨_, rfl, rfl, _, rfl, iteT ⟨_, rfl, _, _, _, rfl, I.ins, rfl, _, rfl, H0, Hp, N, D, M, _, rfl, I0, s0, hN, ra, q.mono (by omega)⟩⟩⟩⟩
  | els =>
    obtain ⟨t, rfl, ht⟩ := id ra
    exact ⟨_, rfl, t, _, 0, .str "else", rfl, rfl, SqT.of ht, rfl, _, rfl, rfl, _, rfl, iteF ⟨_, rfl, rfl, _, rfl, iteF ⟨_, rfl, rfl, _, rfl, iteF ⟨_, rfl, rfl, _, rfl, iteT ⟨_, rfl, _, _, _, rfl, I.ins, rfl, H0, N, D, M, rfl, I, hN, q.mono (by omega)⟩⟩⟩⟩⟩
  | fin =>
    obtain ⟨t, rfl, ht⟩ := id ra
    exact ⟨_, rfl, t, _, 0, .str "end", rfl, rfl, SqT.of ht, rfl, _, rfl, rfl, _, rfl, iteF ⟨_, rfl, rfl, _, rfl, iteF ⟨_, rfl, rfl, _, rfl, iteF ⟨_, rfl, rfl, _, rfl, iteF ⟨_, rfl, rfl, _, rfl, iteT ⟨_, rfl, _, _, _, rfl, I.ins, rfl, H0, N, D, M, rfl, I, hN, q.mono (by omega)⟩⟩⟩⟩⟩⟩
end
end Car

set_option maxHeartbeats 2000000
namespace Car
open PySem L2
noncomputable def M0 : DM := ⟨[], [], []⟩
noncomputable def runR : DM → List Rk → Except Er DM
  | M, [] => .ok M
  | M, k :: ks => match stepR M k with
    | .ok M' => runR M' ks
    | .error e => .error e
/-- what a reading comes to -/
noncomputable def endR (M : DM) : Except Er Unit := if M.un ≠ [] then .error .opn else if badC M M.calls = true then .error .sub else .ok ()
noncomputable def readR (ks : List Rk) : Except Er Unit := if 120 < ks.length then .error .long else match runR M0 ks with
  | .ok M => endR M
  | .error e => .error e
noncomputable def OutR (ec : Er → Addr) (H0 : Hp) (Q : VK) (E : XK) : Except Er Unit → Prop
  | .ok _ => ∀ v H', Same H0 H' → Q v H'
  | .error e => ∀ H', Same H0 H' → E (.ref (ec e)) none H'
/-- texts and the rows that they are -/
inductive RowsOk : List Str → List Rk → Prop
  | nil : RowsOk [] []
  | cons {t : Str} {k : Rk} {ts : List Str} {ks : List Rk} : Wo t → RowW (Txt.split t " ") k → RowsOk ts ks → RowsOk (t :: ts) (k :: ks)
theorem RowsOk.len {ts : List Str} {ks : List Rk} (h : RowsOk ts ks) : ts.length = ks.length := by
  induction h with
  | nil => rfl
  | cons _ _ _ ih => rw [List.length_cons, List.length_cons, ih]
theorem RowsOk.get : ∀ {ts : List Str} {ks : List Rk} {i : Nat} {t : Str}, RowsOk ts ks → ts[i]? = some t → ∃ k, ks.drop i = k :: ks.drop (i + 1) ∧ Wo t ∧ RowW (Txt.split t " ") k
  | [], _, _, _, _, h => by simp at h
  | t :: ts, k :: ks, 0, t', .cons h1 h2 h3, h => by
    have e : t' = t := by simpa using h.symm
    rw [e]
    exact ⟨k, rfl, h1, h2⟩
  | t :: ts, k :: ks, i + 1, t', .cons h1 h2 h3, h => by
    obtain ⟨k', e, r⟩ := RowsOk.get h3 (i := i) (by simpa using h)
    exact ⟨k', by simpa using e, r⟩
theorem RowW.ok {ws : List Str} {k : Rk} (h : RowW ws k) : RkOk k ∧ ∀ x n d, k = .sub x n d → n ≤ 1000 := by
  have g := h.gd
  cases k with
  | call x n => exact ⟨g, fun x n d e => by cases e⟩
  | sub x n d => exact ⟨g.1, fun x n d e => by cases e; exact g.2⟩
  | _ => exact ⟨trivial, fun x n d e => by cases e⟩
theorem OutK.mk {CN : Addr} {H : Hp} {Q : VK} {E : XK} {k : Rk} (h1 : k = .bad → ∀ H', Same H H' → E (.ref CN) none H') (h2 : ∀ v H', Same H H' → RowAt H H' v k → Q v H') : OutK CN H Q E k := by
  cases k with
  | bad => exact h1 rfl
  | _ => exact h2
noncomputable def CallsOk (M : DM) : Prop := ∀ p ∈ M.calls, GoodN p.1
theorem step_calls {M M' : DM} {k : Rk} (h : stepR M k = .ok M') (hk : RkOk k) (hM : CallsOk M) : CallsOk M' := by
  cases k with
  | plain => cases h; exact hM
  | bad => cases h
  | call x n =>
    cases h
    intro p hp
    rcases List.mem_append.mp hp with hp | hp
    · exact hM p hp
    · rw [List.mem_singleton.mp hp]
      exact hk
  | times =>
    dsimp only [stepR] at h
    split at h
    · cases h
    · cases h; exact hM
  | iff =>
    dsimp only [stepR] at h
    split at h
    · cases h
    · cases h; exact hM
  | els =>
    dsimp only [stepR] at h
    split at h
    · cases h; exact hM
    · cases h
  | fin =>
    dsimp only [stepR] at h
    split at h
    · cases h
    · cases h; exact hM
  | sub x n d =>
    dsimp only [stepR] at h
    split at h
    · cases h
    · split at h
      · cases h
      · cases h; exact hM
section
variable {P : Program} {w : World} {K : PySem.W.Frag} {mg : Str → Option Value} {base : Heap} {C CN f : Addr} {fd' : FuncData} {ec : Er → Addr}
/-! __init__ -/
noncomputable def spInit (C : Addr) : Sp := fun vs H Q _ => ∃ (H0 : Hp) (x dx : Addr), vs = [.ref x] ∧ H x = some (.ins C dx []) ∧ H0 x = none ∧ Same H0 H ∧ ∀ A H', A.x = x → DIn C H0 H' 0 A M0 → Q .non H'
theorem scInit : FnScope ["self"] ["self"] (defScope (dr 0)) := ⟨rfl, rfl, rfl, by decide +kernel, rfl, by decide +kernel, by decide +kernel⟩
/-- a field is laid -/
theorem lay_f {H0 H : Hp} {x a dx : Addr} {o u : HO} (hx : H x = some u) (ha : H a = none) (h0 : H0 x = none) (s : Same H0 H) (o' : HO) : a ≠ x ∧ upd (upd H a o) x o' a = some o ∧ upd (upd H a o) x o' x = some o' ∧ (∀ b v, b ≠ x → H b = some v → upd (upd H a o) x o' b = some v) ∧ Same H0 (upd (upd H a o) x o') := by
  have hne : a ≠ x := fun e => by rw [e, hx] at ha; cases ha
  refine ⟨hne, by rw [upd_ne hne, upd_same], upd_same, fun b v hb e => ?_, same_in (s.trans (same_upd ha _)) h0⟩
  rw [upd_ne hb]
  exact same_upd ha _ _ _ e
theorem ok_init (T : DrT K C) (F : Fun K "__init__" "Draft.__init__" (dr 0) f fd') : FnOk P w K mg base (CX1 P w) 1 f fd' ["self"] (spInit C) := by
  refine F.ok1 scInit (fun vs H Q E h => ?_) (fun cdv A outer s H vs Q E hr h => ?_)
  · obtain ⟨H0, x, dx, rfl, _⟩ := h
    rfl
  obtain ⟨H0, x, dx, rfl, hx, h0, s0, q⟩ := h
  refine ⟨_, (pss_cons (ps_fld (pv 0) (pe_lst pa_nil) rfl) (pss_cons (ps_fld (pv 0) (pe_lst pa_nil) rfl) (pss_cons (ps_fld (pv 0) (pe_lst pa_nil) rfl) (pss_cons (ps_fld (pv 0) pe_dnewK rfl) (pss_one (ps_fld (pv 0) (pe_lst pa_nil) rfl)))))), ?_⟩
  refine ⟨Nat.zero_le _, fun a1 ha1 => ⟨_, rfl, x, C, dx, [], rfl, same_upd ha1 _ _ _ hx, T.cl, T.nS, (by decide), ?_⟩⟩
  obtain ⟨n1, e1, x1, k1, s1⟩ := lay_f (o := .lst []) (dx := dx) hx ha1 h0 s0 (.ins C dx (putF "subs" (.ref a1) []))
  have f1 : H0 a1 = none := s0.free ha1
  generalize upd (upd H a1 (.lst [])) x (.ins C dx (putF "subs" (.ref a1) [])) = H1 at e1 x1 k1 s1 ⊢
  refine ⟨Nat.zero_le _, fun a2 ha2 => ⟨_, rfl, x, C, dx, _, rfl, same_upd ha2 _ _ _ x1, T.cl, T.nB, (by show 1 < 1000; decide), ?_⟩⟩
  obtain ⟨n2, e2, x2, k2, s2⟩ := lay_f (o := .lst []) (dx := dx) x1 ha2 h0 s1 (.ins C dx (putF "body" (.ref a2) (putF "subs" (.ref a1) [])))
  have f2 : H0 a2 = none := s1.free ha2
  have e1' := k2 _ _ n1 e1
  have d12 : a2 ≠ a1 := fun z => by rw [z, e1] at ha2; cases ha2
  generalize upd (upd H1 a2 (.lst [])) x (.ins C dx (putF "body" (.ref a2) (putF "subs" (.ref a1) []))) = H2 at e2 x2 k2 s2 e1' ⊢
  refine ⟨Nat.zero_le _, fun a3 ha3 => ⟨_, rfl, x, C, dx, _, rfl, same_upd ha3 _ _ _ x2, T.cl, T.nU, (by show 2 < 1000; decide), ?_⟩⟩
  obtain ⟨n3, e3, x3, k3, s3⟩ := lay_f (o := .lst []) (dx := dx) x2 ha3 h0 s2 (.ins C dx (putF "unended" (.ref a3) (putF "body" (.ref a2) (putF "subs" (.ref a1) []))))
  have f3 : H0 a3 = none := s2.free ha3
  have d31 : a3 ≠ a1 := fun z => by rw [z, e1'] at ha3; cases ha3
  have d32 : a3 ≠ a2 := fun z => by rw [z, e2] at ha3; cases ha3
  have e1'' := k3 _ _ n1 e1'
  have e2'' := k3 _ _ n2 e2
  generalize upd (upd H2 a3 (.lst [])) x (.ins C dx (putF "unended" (.ref a3) (putF "body" (.ref a2) (putF "subs" (.ref a1) [])))) = H3 at e3 x3 k3 s3 e1'' e2'' ⊢
  refine fun a4 ha4 => ⟨_, rfl, x, C, dx, _, rfl, same_upd ha4 _ _ _ x3, T.cl, T.nN, (by show 3 < 1000; decide), ?_⟩
  obtain ⟨n4, e4, x4, k4, s4⟩ := lay_f (o := .dK []) (dx := dx) x3 ha4 h0 s3 (.ins C dx (putF "names_due" (.ref a4) (putF "unended" (.ref a3) (putF "body" (.ref a2) (putF "subs" (.ref a1) [])))))
  have f4 : H0 a4 = none := s3.free ha4
  have g1 := k4 _ _ n1 e1''
  have g2 := k4 _ _ n2 e2''
  have g3 := k4 _ _ n3 e3
  generalize upd (upd H3 a4 (.dK [])) x (.ins C dx (putF "names_due" (.ref a4) (putF "unended" (.ref a3) (putF "body" (.ref a2) (putF "subs" (.ref a1) []))))) = H4 at e4 x4 k4 s4 g1 g2 g3 ⊢
  refine ⟨Nat.zero_le _, fun a5 ha5 => ⟨_, rfl, x, C, dx, _, rfl, same_upd ha5 _ _ _ x4, T.cl, T.nC, (by show 4 < 1000; decide), ?_⟩⟩
  obtain ⟨n5, e5, x5, k5, s5⟩ := lay_f (o := .lst []) (dx := dx) x4 ha5 h0 s4 (.ins C dx (putF "calls" (.ref a5) (putF "names_due" (.ref a4) (putF "unended" (.ref a3) (putF "body" (.ref a2) (putF "subs" (.ref a1) []))))))
  have f5 : H0 a5 = none := s4.free ha5
  have d51 : a5 ≠ a1 := fun z => by rw [z, g1] at ha5; cases ha5
  have d52 : a5 ≠ a2 := fun z => by rw [z, g2] at ha5; cases ha5
  have d53 : a5 ≠ a3 := fun z => by rw [z, g3] at ha5; cases ha5
  refine q ⟨x, dx, a1, a2, a3, a4, a5, [], [], [a1, a2]⟩ _ rfl { ins := x5, un := k5 _ _ n3 g3, ul := trivial, ca := e5, cl := trivial, nm := k5 _ _ n4 e4, bs := fun b hb => ?_, iB := by simp, iS := by simp, nU := by simp [d31, d32], nC := by simp [d51, d52], uc := d53.symm, hx := h0, hU := f3, hC := f5, hN := f4, hB := fun b hb => ?_, sm := s5, len := Nat.le_refl _, cln := Nat.le_refl _, nln := Nat.le_refl _ }
  · rcases List.mem_cons.mp hb with rfl | hb
    · exact ⟨[], k5 _ _ n1 g1, Nat.le_refl _⟩
    rcases List.mem_cons.mp hb with rfl | hb
    · exact ⟨[], k5 _ _ n2 g2, Nat.le_refl _⟩
    · cases hb
  · rcases List.mem_cons.mp hb with rfl | hb
    · exact f1
    rcases List.mem_cons.mp hb with rfl | hb
    · exact f2
    · cases hb
/-! read -/
noncomputable def spRead (ec : Er → Addr) : Sp := fun vs H Q E => ∃ (z : Str) (ks : List Rk), vs = [.str z] ∧ z.length ≤ 1000000 ∧ RowsOk (Txt.split z "\n") ks ∧ ks.length ≤ 1000 ∧ OutR ec H Q E (readR ks)
theorem scRead : FnScope ["text", "texts", "draft", "row_text"] ["text"] (defScope sRead) := ⟨rfl, rfl, rfl, by decide +kernel, rfl, by decide +kernel, by decide +kernel⟩
theorem ok_read (L : LawT mg) (W : RwT K mg) (T : DrT K C) (X : EcT mg base ec) (MI : Mc P w K mg base "Draft" C 1 ["self"] (spInit C)) (MP : Mt P w K mg base C "put" 3 ["self", "row"] (spPut C ec)) (ME : Mt P w K mg base C "look_at_end" 1 ["self"] (spEnd C ec)) (MC : Mt P w K mg base C "look_at_calls" 1 ["self"] (spLC C ec)) (FR : Fn P w K mg base "row_of" 29 ["text"] (spRowOf (ec .row)))
    (F : Fun K "read" "read" sRead f fd') : FnOk P w K mg base (CX1 P w) 30 f fd' ["text"] (spRead ec) := by
  have nd := scRead.nd
  refine F.ok1 scRead (fun vs H Q E h => ?_) (fun cdv A outer s H vs Q E hr h => ?_)
  · obtain ⟨z, ks, rfl, _⟩ := h
    rfl
  obtain ⟨z, ks, rfl, hz, rows, hkl, q⟩ := h
  have hr1 : Room 1 _ := hr.mono (by decide)
  have hr2 : Room 2 _ := hr.mono (by decide)
  have hr3 : Room 3 _ := hr.mono (by decide)
  have hlen := rows.len
  obtain ⟨bm, O1, FB1⟩ := X.own .long
  obtain ⟨tm, gm⟩ := W.mr
  obtain ⟨fi, di, oki, mki, mgi, bii⟩ := MI.ex
  have hz' : z.length ≤ sizeLine := Nat.le_trans hz (by decide)
  refine ⟨_, (pss_cons (ps_set (i := 1) nd rfl (Or.inl rfl) (pe_bm PySem.F.plainAttrs_str PySem.F.slot_str_split PySem.F.type_str_split mt_split (pv 0) (pa_cons pe_str pa_nil)))
    (pss_cons (ps_if (pt_cmpR op_gt (pe_callB call_len_seq rfl L.len PySem.boot_len (pa_cons (pv 1) pa_nil)) (pe_glob (v := .int 120) rfl gm ⟨_, rfl⟩) (nomark _)) (pss_one (ps_raise O1 FB1 rfl rfl raises1 (pa_cons pe_str pa_nil))) pss_nil)
    (pss_cons (ps_set (i := 2) nd rfl (Or.inl rfl) (pe_make0 mki oki hr2 rfl mgi bii .nil (pass1 (E := E))))
    (pss_cons (ps_for own1 rfl (pi_list (pv 1)) (pg_name (i := 3) nd rfl (Or.inl rfl)) (pss_one (ps_expr (pf_meth MP (pv 2) hr3 (pass1 (E := E)) (pa_cons (pf_call FR hr rfl (pass1 (E := E)) (pa_cons (pv 3) pa_nil)) pa_nil)))))
    (pss_cons (ps_expr (pf_meth0 ME (pv 2) hr1 (pass1 (E := E))))
    (pss_cons (ps_expr (pf_meth0 MC (pv 2) hr1 (pass1 (E := E))))
    (pss_one (ps_ret (pe_tup (pa_cons (pe_fld (pv 2) rfl) (pa_cons (pe_fld (pv 2) rfl) pa_nil))))))))))), ?_⟩
  refine ⟨_, rfl, rfl, z, _, rfl, rfl, (by decide +kernel), hz', Nat.le_of_lt (line3 (show _ ≤ 1000 by rw [hlen]; exact hkl) (by decide)), fun D hD => ?_⟩
  have s1 := same_upd hD (.lst ((Txt.split z "\n").map V.str))
  have hD1 : upd H D (.lst ((Txt.split z "\n").map V.str)) D = some (.lst ((Txt.split z "\n").map V.str)) := upd_same
  generalize upd H D (.lst ((Txt.split z "\n").map V.str)) = H1 at s1 hD1 ⊢
  refine ⟨_, rfl, D, _, rfl, .inl (SqL.of hD1), _, _, rfl, rfl, _, rfl, ?_⟩
  rw [List.length_map, hlen]
  by_cases hlong : 120 < ks.length
  · rw [decide_eq_true (show ((ks.length : Nat) : Int) > 120 by omega)]
    have q' : OutR ec H Q E (if 120 < ks.length then .error .long else match runR M0 ks with | .ok M => endR M | .error e => .error e) := q
    rw [if_pos hlong] at q'
    exact iteT ⟨le1, q' H1 s1⟩
  rw [decide_eq_false (show ¬ ((ks.length : Nat) : Int) > 120 by omega)]
  have q' : OutR ec H Q E (match runR M0 ks with | .ok M => endR M | .error e => .error e) := by
    have q1 : OutR ec H Q E (if 120 < ks.length then .error .long else match runR M0 ks with | .ok M => endR M | .error e => .error e) := q
    rw [if_neg hlong] at q1
    exact q1
  refine iteF (fun x dx hx hdx hne => ⟨H1, x, dx, rfl, upd_same, hx, ?_, fun A0 H2 ex I => ⟨rfl, ?_⟩⟩)
  · exact (same_upd hdx _).trans (same_upd (by rw [upd_ne (Ne.symm hne)]; exact hx) _)
  refine ⟨_, rfl, D, rfl, ⟨_, SqL.of (I.sm _ _ hD1)⟩, ?_⟩
  refine for_list (K := K) (a := D) (xs := (Txt.split z "\n").map V.str) (fun i σ Hc => ∃ (A : DA) (M : DM) (o : Option V), σ = [some (.str z), some (.ref D), some (.ref x), o] ∧ A.x = x ∧ DIn C H1 Hc (3 * i) A M ∧ CallsOk M ∧ runR M (ks.drop i) = runR M0 ks) ⟨A0, M0, none, rfl, ex, I, fun p hp => (by cases hp), rfl⟩ (fun i σ Hc _ ⟨_, _, _, _, _, I, _⟩ => SqL.of (I.sm _ _ hD1)) ?_ ?_
  · rintro i y σ Hc hy ⟨A, M, o, rfl, ex, I, hc, hrun⟩
    obtain ⟨t, rfl, ht⟩ := str_of hy
    obtain ⟨k, hk, ht1, hw⟩ := rows.get ht
    have hi : i < ks.length := by
      rw [← hlen]
      exact (List.getElem?_eq_some_iff.mp ht).1
    refine ⟨_, rfl, _, _, _, rfl, (ex ▸ I.ins), rfl, _, rfl, t, k, rfl, ht1, hw, OutK.mk (fun hb H' s' => ?_) (fun v H3 s3 ra => ?_)⟩
    · rw [hk, hb] at hrun
      have hrun' : runR M0 ks = .error .row := hrun.symm
      rw [hrun'] at q'
      exact q' H' (s1.trans (I.sm.trans s'))
    refine ⟨H1, Hc, 3 * i, A, M, v, k, by rw [ex]; rfl, I, s3, by omega, ra, hw.ok.1, hw.ok.2, ?_⟩
    rw [hk] at hrun
    cases hst : stepR M k with
    | ok M' =>
      have hrun' : runR M' (ks.drop (i + 1)) = runR M0 ks := by
        rw [← hrun]
        show _ = (match stepR M k with | .ok M' => runR M' (ks.drop (i + 1)) | .error e => .error e)
        rw [hst]
      intro A' H' ex' I'
      exact ⟨A', M', _, rfl, ex'.trans ex, by rw [show 3 * (i + 1) = 3 * i + 3 by omega]; exact I', step_calls hst hw.ok.1 hc, hrun'⟩
    | error e =>
      have hrun' : runR M0 ks = .error e := by
        rw [← hrun]
        show (match stepR M k with | .ok M' => runR M' (ks.drop (i + 1)) | .error e => .error e) = _
        rw [hst]
      rw [hrun'] at q'
      exact fun H' s' => q' H' (s1.trans s')
  · rintro σ Hc ⟨A, M, o, rfl, ex, I, hc, hrun⟩
    rw [List.length_map, hlen, List.drop_length] at hrun
    have hrun' : runR M0 ks = .ok M := hrun.symm
    rw [hrun'] at q'
    have q2 : OutR ec H Q E (if M.un ≠ [] then .error .opn else if badC M M.calls = true then .error .sub else .ok ()) := q'
    refine ⟨_, rfl, _, _, _, rfl, (ex ▸ I.ins), rfl, H1, _, A, M, by rw [ex]; rfl, I, fun hu H' s' => ?_, fun hu => ?_⟩
    · rw [if_pos hu] at q2
      exact q2 H' (s1.trans s')
    rw [if_neg (fun h => h hu)] at q2
    refine ⟨_, rfl, _, _, _, rfl, (ex ▸ I.ins), rfl, H1, _, A, M, by rw [ex]; rfl, I, hc, fun hb H' s' => ?_, fun hb => ?_⟩
    · rw [if_pos hb] at q2
      exact q2 H' (s1.trans s')
    · rw [hb, if_neg (by decide)] at q2
      exact ⟨_, rfl, _, _, _, _, _, rfl, (ex ▸ I.ins), T.cl, T.nS, rfl, _, rfl, _, _, _, _, _, rfl, (ex ▸ I.ins), T.cl, T.nB, rfl, le2, fun t ht => q2 _ _ (s1.trans (I.sm.trans (same_upd ht _)))⟩
end
end Car

set_option maxHeartbeats 1000000
namespace Car
open PySem L2
noncomputable abbrev sAt : Stmt := top 50
noncomputable abbrev sStir : Stmt := top 51
noncomputable abbrev sBad : Stmt := top 52
noncomputable abbrev sAny : Stmt := top 53
noncomputable abbrev sJudged : Stmt := top 54
noncomputable abbrev sRefusal : Stmt := top 55
noncomputable abbrev sLaw : Stmt := top 56
section
variable {P : Program} {w : World} {K : PySem.W.Frag} {mg : Str → Option Value} {base : Heap} {f : Addr} {fd' : FuncData}
noncomputable def spStir : Sp := fun vs H Q _ => ∃ cell k : Int, vs = [.int cell, .int k] ∧ 0 ≤ k ∧ k ≤ 1000 ∧ ∀ n : Int, 0 ≤ n → n < 268435456 → Q (.int n) H
theorem scStir : FnScope ["cell", "k", "number"] ["cell", "k"] (defScope sStir) := ⟨rfl, rfl, rfl, by decide +kernel, rfl, by decide +kernel, by decide +kernel⟩
theorem ok_stir (F : Fun K "_law_stir" "_law_stir" sStir f fd') : FnOk P w K mg base (CX1 P w) 1 f fd' ["cell", "k"] spStir := by
  have nd := scStir.nd
  refine F.ok1 scStir (fun vs H Q E h => ?_) (fun cdv A outer s H vs Q E hr h => ?_)
  · obtain ⟨cell, k, rfl, _⟩ := h
    rfl
  obtain ⟨cell, k, rfl, k0, k1, q⟩ := h
  refine ⟨_, (pss_cons (ps_if (pt_cmpR op_eq (pe_op op_mod (pv 0) pe_int) pe_int (nomark _)) (pss_one (ps_ret (pe_op op_mod (pe_op op_shr (pe_op op_fdiv (pv 0) pe_int) (pe_op op_mul pe_int (pv 1))) (pe_op op_pow pe_int pe_int)))) pss_nil)
    (pss_cons (ps_set (i := 2) nd rfl (Or.inl rfl) (pe_op op_mod (pe_op op_mul (pe_op op_add (pe_op op_add (pe_op op_mod (pv 0) (pe_op op_pow pe_int pe_int)) (pe_op op_mul pe_int (pv 1))) pe_int) pe_int) pe_int))
    (pss_cons (ps_set (i := 2) nd rfl (Or.inl rfl) (pe_op op_mod (pe_op op_mul (pv 2) (pv 2)) pe_int))
    (pss_one (ps_ret (pe_op op_fdiv (pe_op op_mod (pe_op op_mul (pv 2) pe_int) pe_int) pe_int)))))), ?_⟩
  refine ⟨_, rfl, _, _, rfl, rfl, (by show (0 : Int) < 2; decide), rfl, _, rfl, ?_⟩
  refine ite2 (fun _ => ?_) (fun _ => ?_)
  · refine ⟨_, rfl, _, _, rfl, rfl, ⟨by decide, by decide⟩, _, rfl, _, _, rfl, rfl, .inl ⟨by decide, by decide⟩, _, _, rfl, rfl, (by show (0 : Int) ≤ 28 * k; omega), _, _, rfl, rfl, ⟨by decide, by decide, by decide⟩, _, _, rfl, rfl, (by show (0 : Int) < 2 ^ (28 : Int).toNat; decide), ?_⟩
    have b := mod_lt (cell / 2 / 2 ^ (28 * k).toNat) (show (0 : Int) < 2 ^ (28 : Int).toNat by decide)
    exact q _ b.1 (Int.lt_of_lt_of_le b.2 (by decide))
  · refine ⟨_, rfl, _, _, rfl, rfl, ⟨by decide, by decide, by decide⟩, _, _, rfl, rfl, (by show (0 : Int) < 10 ^ (12 : Int).toNat; decide), _, rfl, _, _, rfl, rfl, .inl ⟨by decide, by decide⟩, _, _, rfl, rfl, _, _, rfl, rfl, _, _, rfl, rfl, .inr ⟨by decide, by decide⟩, _, _, rfl, rfl, (by show (0 : Int) < 2147483647; decide), ?_⟩
    have b := mod_lt ((cell % 10 ^ (12 : Int).toNat + 1013 * k + 1) * 16807) (show (0 : Int) < 2147483647 by decide)
    generalize (cell % 10 ^ (12 : Int).toNat + 1013 * k + 1) * 16807 % 2147483647 = m at b
    refine ⟨_, rfl, _, rfl, _, _, rfl, rfl, .inl ⟨by omega, by omega⟩, _, _, rfl, rfl, (by show (0 : Int) < 2147483629; decide), ?_⟩
    have b2 := mod_lt (m * m) (show (0 : Int) < 2147483629 by decide)
    generalize m * m % 2147483629 = m2 at b2
    refine ⟨_, rfl, _, _, rfl, rfl, .inr ⟨by decide, by decide⟩, _, _, rfl, rfl, (by show (0 : Int) < 2147483587; decide), _, _, rfl, rfl, ⟨by decide, by decide⟩, ?_⟩
    have b3 := mod_lt (m2 * 39373) (show (0 : Int) < 2147483587 by decide)
    generalize m2 * 39373 % 2147483587 = m3 at b3
    exact q _ (by omega) (by omega)

/-! ### _law_cell_at -/
noncomputable def spAt (K : PySem.W.Frag) : Sp := fun vs H Q _ => ∃ (D : Addr) (ns : List Int) (k : Int), vs = [.ref D, .int k] ∧ SqL K H D (ns.map V.int) ∧ 0 ≤ k ∧ ∀ n : Int, Q (.int n) H
theorem scAt : FnScope ["script", "k"] ["script", "k"] (defScope sAt) := ⟨rfl, rfl, rfl, by decide +kernel, rfl, by decide +kernel, by decide +kernel⟩
theorem ok_at (T : LawT mg) (F : Fun K "_law_cell_at" "_law_cell_at" sAt f fd') : FnOk P w K mg base (CX1 P w) 1 f fd' ["script", "k"] (spAt K) := by
  have nd := scAt.nd
  refine F.ok1 scAt (fun vs H Q E h => ?_) (fun cdv A outer s H vs Q E hr h => ?_)
  · obtain ⟨D, ns, k, rfl, _⟩ := h
    rfl
  obtain ⟨D, ns, k, rfl, sq, k0, q⟩ := h
  refine ⟨_, (pss_cons (ps_if (pt_cmpR op_lt (pv 1) (pe_callB call_len_seq rfl T.len PySem.boot_len (pa_cons (pv 0) pa_nil)) (nomark _)) (pss_one (ps_ret (pe_ix (ix_listK (K := K) rfl) (pv 0) (pv 1) (fun _ _ => rfl)))) pss_nil)
    (pss_one (ps_ret pe_int))), ?_⟩
  refine ⟨_, rfl, _, rfl, D, _, rfl, .inl sq, _, _, rfl, rfl, _, rfl, ?_⟩
  rw [List.length_map]
  refine ite2 (fun h => ?_) (fun h => q 0)
  have hk : k < (ns.length : Int) := of_decide_eq_true h
  have hlt : k.toNat < ns.length := by omega
  refine ⟨_, rfl, _, rfl, D, _, k, .int ns[k.toNat], rfl, rfl, sq, ?_, q _⟩
  have : atI (ns.map V.int) ((k.toNat : Nat) : Int) = some (.int ns[k.toNat]) := atI_nat (by rw [List.getElem?_map, List.getElem?_eq_getElem hlt]; rfl)
  rwa [show ((k.toNat : Nat) : Int) = k by omega] at this
end
/-! ### the law's rows -/
/-- a short word without a gap -/
noncomputable def W1 (a : Str) : Prop := a.length ≤ 8 ∧ (∀ c ∈ cl a, c ≠ 32 ∧ c ≠ 10 ∧ c < 128)
inductive LrW : Str → Str → Nat → Rk → Prop
  | plain : LrW "plain" "" 0 .plain
  | bad : LrW "bad" "" 0 .bad
  | times : LrW "times" "" 0 .times
  | iff : LrW "if" "" 0 .iff
  | els : LrW "else" "" 0 .els
  | fin : LrW "end" "" 0 .fin
  | call {x : Str} {n : Nat} : W1 x → GoodN x → n ≤ 4 → LrW "call" x n (.call x n)
  | twice {x : Str} {n : Nat} : n ≤ 4 → LrW "twice" x n (.sub x n true)
  | sub {x : Str} {n : Nat} : n ≤ 4 → LrW "sub" x n (.sub x n false)
structure Lr where
  t : Str
  kd : Str
  x : Str
  n : Nat
  rk : Rk
structure Lr.ok (r : Lr) : Prop where
  len : r.t.length ≤ 60
  nl : 10 ∉ cl r.t
  so : ∀ c ∈ cl r.t, c < 128
  xo : ∀ c ∈ cl r.x, c < 128
  row : RowW (Txt.split r.t " ") r.rk
  kn : LrW r.kd r.x r.n r.rk
noncomputable def Lr.vs (r : Lr) : List V := [.str r.t, .str r.kd, .str r.x, .int r.n]
theorem jl_len (c : Nat) : ∀ ls : List (List Nat), (jl c ls).length ≤ (ls.map (·.length)).sum + ls.length
  | [] => Nat.zero_le _
  | [a] => by simp [jl]
  | a :: b :: r => by
    have ih := jl_len c (b :: r)
    have e : (jl c (a :: b :: r)).length = a.length + ((jl c (b :: r)).length + 1) := by
      show (a ++ c :: jl c (b :: r)).length = _
      rw [List.length_append, List.length_cons]
    rw [e, List.map_cons, List.sum_cons, List.length_cons]
    omega
theorem jl_mem {c d : Nat} (hd : d ≠ c) : ∀ {ls : List (List Nat)}, (∀ l ∈ ls, d ∉ l) → d ∉ jl c ls
  | [], _ => by simp [jl]
  | [a], h => h a List.mem_cons_self
  | a :: b :: r, h => by
    have ih := jl_mem hd (ls := b :: r) (fun l hl => h l (List.mem_cons_of_mem _ hl))
    intro hm
    rcases List.mem_append.mp (show d ∈ a ++ c :: jl c (b :: r) from hm) with h1 | h1
    · exact h a List.mem_cons_self h1
    rcases List.mem_cons.mp h1 with h2 | h2
    · exact hd h2
    · exact ih h2
theorem jl_lt {c : Nat} (hd : c < 128) : ∀ {ls : List (List Nat)}, (∀ l ∈ ls, ∀ d ∈ l, d < 128) → ∀ d ∈ jl c ls, d < 128
  | [], _, d, h => by simp [jl] at h
  | [a], h, d, hm => h a List.mem_cons_self d hm
  | a :: b :: r, h, d, hm => by
    have ih := jl_lt hd (ls := b :: r) (fun l hl => h l (List.mem_cons_of_mem _ hl))
    rcases List.mem_append.mp (show d ∈ a ++ c :: jl c (b :: r) from hm) with h1 | h1
    · exact h a List.mem_cons_self d h1
    rcases List.mem_cons.mp h1 with h2 | h2
    · rw [h2]; exact hd
    · exact ih d h2
theorem cl_tj (c : Nat) (zs : List Str) : cl (Txt.join ⟨#[c]⟩ zs) = jl c (zs.map cl) := by
  have ej : Txt.join ⟨#[c]⟩ zs = Str.join ⟨#[c]⟩ zs := by
    show Builtin.Str.glued _ zs = _
    rw [StrLaws.glued_eq_join]
  rw [ej]
  exact cl_join c zs
theorem cl_len (z : Str) : (cl z).length = z.length := by simp [cl, Str.length]
theorem sum8 {n : Nat} : ∀ {zs : List Str}, (∀ z ∈ zs, z.length ≤ n) → ((zs.map cl).map (·.length)).sum ≤ n * zs.length
  | [], _ => Nat.zero_le _
  | z :: zs, h => by
    have ih := sum8 (n := n) (zs := zs) fun a ha => h a (List.mem_cons_of_mem _ ha)
    have h1 := h z List.mem_cons_self
    rw [List.map_cons, List.map_cons, List.sum_cons, List.length_cons, cl_len, Nat.mul_add]
    omega
/-- words joined by gaps -/
theorem join_words {ws : List Str} (hne : ws ≠ []) (h : ∀ a ∈ ws, W1 a) (hl : ws.length ≤ 6) : (Txt.join " " ws).length ≤ 60 ∧ 10 ∉ cl (Txt.join " " ws) ∧ (∀ c ∈ cl (Txt.join " " ws), c < 128) ∧ Txt.split (Txt.join " " ws) " " = ws := by
  have e : (" " : Str) = ⟨#[32]⟩ := by decide +kernel
  rw [e]
  refine ⟨?_, ?_, ?_, split_join hne fun z hz hm => ((h z hz).2 32 hm).1 rfl⟩
  · rw [← cl_len, cl_tj]
    have h1 := jl_len 32 (ws.map cl)
    have h2 := sum8 (n := 8) (zs := ws) fun z hz => (h z hz).1
    rw [List.length_map] at h1
    omega
  · rw [cl_tj]
    refine jl_mem (by decide) fun l hl hm => ?_
    obtain ⟨z, hz, rfl⟩ := List.mem_map.mp hl
    exact ((h z hz).2 10 hm).2.1 rfl
  · rw [cl_tj]
    refine jl_lt (by decide) fun l hl d hm => ?_
    obtain ⟨z, hz, rfl⟩ := List.mem_map.mp hl
    exact ((h z hz).2 d hm).2.2
theorem w1_call : W1 "call" := ⟨by decide +kernel, by decide +kernel⟩
theorem w1_sub : W1 "sub" := ⟨by decide +kernel, by decide +kernel⟩
theorem call_lr {x : Str} {as : List Str} (hx : W1 x) (gx : GoodN x) (h : ∀ a ∈ as, W1 a ∧ GoodE a) (hl : as.length ≤ 4) : Lr.ok ⟨Txt.join " " ("call" :: x :: as), "call", x, as.length, .call x as.length⟩ := by
  obtain ⟨h1, h2, h4, h3⟩ := join_words (ws := ("call" : Str) :: x :: as) (by simp) (fun a ha => by
    rcases List.mem_cons.mp ha with rfl | ha
    · exact w1_call
    rcases List.mem_cons.mp ha with rfl | ha
    · exact hx
    · exact (h a ha).1) (by rw [List.length_cons, List.length_cons]; omega)
  exact ⟨h1, h2, h4, fun c hc => (hx.2 c hc).2.2, by show RowW (Txt.split _ _) _; rw [h3]; exact RowW.call gx (fun a ha => (h a ha).2) hl, .call hx gx hl⟩
theorem sub_ws {x : Str} {ns : List Str} (hx : W1 x) (h : ∀ a ∈ ns, W1 a ∧ GoodN a) (hl : ns.length ≤ 4) : (Txt.join " " ("sub" :: x :: ns)).length ≤ 60 ∧ 10 ∉ cl (Txt.join " " ("sub" :: x :: ns)) ∧ (∀ c ∈ cl (Txt.join " " ("sub" :: x :: ns)), c < 128) ∧ Txt.split (Txt.join " " ("sub" :: x :: ns)) " " = ("sub" : Str) :: x :: ns :=
  join_words (ws := ("sub" : Str) :: x :: ns) (by simp) (fun a ha => by
    rcases List.mem_cons.mp ha with rfl | ha
    · exact w1_sub
    rcases List.mem_cons.mp ha with rfl | ha
    · exact hx
    · exact (h a ha).1) (by rw [List.length_cons, List.length_cons]; omega)
theorem sub_lr {x : Str} {ns : List Str} (hx : W1 x) (gx : GoodN x) (h : ∀ a ∈ ns, W1 a ∧ GoodN a) (hl : ns.length ≤ 4) (hn : ns.Nodup) : Lr.ok ⟨Txt.join " " ("sub" :: x :: ns), "sub", x, ns.length, .sub x ns.length false⟩ := by
  obtain ⟨h1, h2, h4, h3⟩ := sub_ws hx h hl
  exact ⟨h1, h2, h4, fun c hc => (hx.2 c hc).2.2, by show RowW (Txt.split _ _) _; rw [h3]; exact RowW.sub gx (fun a ha => (h a ha).2) hl ⟨fun z => Bool.noConfusion z, fun z => absurd hn z⟩, .sub hl⟩
theorem twice_lr {x : Str} {ns : List Str} (hx : W1 x) (gx : GoodN x) (h : ∀ a ∈ ns, W1 a ∧ GoodN a) (hl : ns.length ≤ 4) (hn : ¬ ns.Nodup) : Lr.ok ⟨Txt.join " " ("sub" :: x :: ns), "twice", x, ns.length, .sub x ns.length true⟩ := by
  obtain ⟨h1, h2, h4, h3⟩ := sub_ws hx h hl
  exact ⟨h1, h2, h4, fun c hc => (hx.2 c hc).2.2, by show RowW (Txt.split _ _) _; rw [h3]; exact RowW.sub gx (fun a ha => (h a ha).2) hl ⟨fun _ => hn, fun _ => rfl⟩, .twice hl⟩
theorem goodE {a : Str} (h1 : a.length ≤ 1000) (h2 : ∀ c ∈ cl a, c < 16 ^ 8) (h : (exprD a).isSome = true) : GoodE a := ⟨⟨h1, h2⟩, Option.isSome_iff_exists.mp h⟩
theorem ge_1 : GoodE "1" := goodE (by decide +kernel) (by decide +kernel) (by decide +kernel)
theorem ge_2 : GoodE "2" := goodE (by decide +kernel) (by decide +kernel) (by decide +kernel)
theorem ge_a : GoodE "a" := goodE (by decide +kernel) (by decide +kernel) (by decide +kernel)
theorem ge_a1 : GoodE "a+1" := goodE (by decide +kernel) (by decide +kernel) (by decide +kernel)
theorem ge_n : GoodE "n" := goodE (by decide +kernel) (by decide +kernel) (by decide +kernel)
theorem ge_q : GoodE "q" := goodE (by decide +kernel) (by decide +kernel) (by decide +kernel)
theorem gn_a : GoodN "a" := ⟨by decide +kernel, by decide +kernel⟩
theorem gn_b : GoodN "b" := ⟨by decide +kernel, by decide +kernel⟩
theorem gn_n : GoodN "n" := ⟨by decide +kernel, by decide +kernel⟩
theorem gn_q : GoodN "q" := ⟨by decide +kernel, by decide +kernel⟩
theorem lr_hold : Lr.ok ⟨"hold 1", "plain", "", 0, .plain⟩ := ⟨by decide +kernel, by decide +kernel, by decide +kernel, by decide +kernel, (show Txt.split "hold 1" " " = (["hold", "1"] : List Str) by decide +kernel) ▸ RowW.hold ge_1, .plain⟩
theorem lr_fast : Lr.ok ⟨"fast x by a", "plain", "", 0, .plain⟩ := ⟨by decide +kernel, by decide +kernel, by decide +kernel, by decide +kernel, (show Txt.split "fast x by a" " " = (["fast", "x", "by", "a"] : List Str) by decide +kernel) ▸ RowW.by_ (.inl rfl) ge_a, .plain⟩
theorem lr_let : Lr.ok ⟨"let a a+1", "plain", "", 0, .plain⟩ := ⟨by decide +kernel, by decide +kernel, by decide +kernel, by decide +kernel, (show Txt.split "let a a+1" " " = (["let", "a", "a+1"] : List Str) by decide +kernel) ▸ RowW.let_ gn_a ge_a1, .plain⟩
theorem lr_times : Lr.ok ⟨"times n 2", "times", "", 0, .times⟩ := ⟨by decide +kernel, by decide +kernel, by decide +kernel, by decide +kernel, (show Txt.split "times n 2" " " = (["times", "n", "2"] : List Str) by decide +kernel) ▸ RowW.times gn_n ge_2, .times⟩
theorem lr_if1 : Lr.ok ⟨"if a < 1", "if", "", 0, .iff⟩ := ⟨by decide +kernel, by decide +kernel, by decide +kernel, by decide +kernel, (show Txt.split "if a < 1" " " = (["if", "a", "<", "1"] : List Str) by decide +kernel) ▸ RowW.iff (.inl rfl) ge_a ge_1, .iff⟩
theorem lr_if2 : Lr.ok ⟨"if a = n", "if", "", 0, .iff⟩ := ⟨by decide +kernel, by decide +kernel, by decide +kernel, by decide +kernel, (show Txt.split "if a = n" " " = (["if", "a", "=", "n"] : List Str) by decide +kernel) ▸ RowW.iff (.inr rfl) ge_a ge_n, .iff⟩
theorem lr_else : Lr.ok ⟨"else", "else", "", 0, .els⟩ := ⟨by decide +kernel, by decide +kernel, by decide +kernel, by decide +kernel, (show Txt.split "else" " " = (["else"] : List Str) by decide +kernel) ▸ RowW.els, .els⟩
theorem lr_end : Lr.ok ⟨"end", "end", "", 0, .fin⟩ := ⟨by decide +kernel, by decide +kernel, by decide +kernel, by decide +kernel, (show Txt.split "end" " " = (["end"] : List Str) by decide +kernel) ▸ RowW.fin, .fin⟩
end Car

set_option maxHeartbeats 2000000
namespace Car
open PySem L2
theorem cut_to (xs : List V) (n : Int) (h : 0 ≤ n) : cutV xs none (some n) = xs.take n.toNat := by
  unfold cutV
  have e1 : HT.sIx xs.length 0 none = 0 := rfl
  have e2 : HT.sIx xs.length xs.length (some n) = min n.toNat xs.length := by
    unfold HT.sIx
    simp
    omega
  rw [e1, e2, List.drop_zero, Nat.sub_zero, ← List.take_take, List.take_length]
theorem w_hole : W1 "hole" ∧ GoodN "hole" := ⟨⟨by decide +kernel, by decide +kernel⟩, ⟨by decide +kernel, by decide +kernel⟩⟩
theorem w_head : W1 "head" ∧ GoodN "head" := ⟨⟨by decide +kernel, by decide +kernel⟩, ⟨by decide +kernel, by decide +kernel⟩⟩
theorem w_hol : W1 "hol" ∧ GoodN "hol" := ⟨⟨by decide +kernel, by decide +kernel⟩, ⟨by decide +kernel, by decide +kernel⟩⟩
theorem w_1 : W1 "1" := ⟨by decide +kernel, by decide +kernel⟩
theorem w_a : W1 "a" := ⟨by decide +kernel, by decide +kernel⟩
theorem w_b : W1 "b" := ⟨by decide +kernel, by decide +kernel⟩
theorem w_n : W1 "n" := ⟨by decide +kernel, by decide +kernel⟩
theorem w_q : W1 "q" := ⟨by decide +kernel, by decide +kernel⟩
noncomputable def asC : List Str := ["1", "a", "n", "q"]
noncomputable def nsI : List Str := ["a", "n", "q", "hole"]
noncomputable def nsS : List Str := ["a", "n", "q", "b"]
theorem asC_ok : ∀ a ∈ asC, W1 a ∧ GoodE a := fun a ha => by
  simp only [asC, List.mem_cons, List.not_mem_nil, or_false] at ha
  rcases ha with rfl | rfl | rfl | rfl
  · exact ⟨w_1, ge_1⟩
  · exact ⟨w_a, ge_a⟩
  · exact ⟨w_n, ge_n⟩
  · exact ⟨w_q, ge_q⟩
theorem nsI_ok : ∀ a ∈ nsI, W1 a ∧ GoodN a := fun a ha => by
  simp only [nsI, List.mem_cons, List.not_mem_nil, or_false] at ha
  rcases ha with rfl | rfl | rfl | rfl
  · exact ⟨w_a, gn_a⟩
  · exact ⟨w_n, gn_n⟩
  · exact ⟨w_q, gn_q⟩
  · exact w_hole
theorem nsS_ok : ∀ a ∈ nsS, W1 a ∧ GoodN a := fun a ha => by
  simp only [nsS, List.mem_cons, List.not_mem_nil, or_false] at ha
  rcases ha with rfl | rfl | rfl | rfl
  · exact ⟨w_a, gn_a⟩
  · exact ⟨w_n, gn_n⟩
  · exact ⟨w_q, gn_q⟩
  · exact ⟨w_b, gn_b⟩
theorem nsS_nd : nsS.Nodup := by decide +kernel
theorem sum_w1 : ∀ {zs : List Str}, (∀ z ∈ zs, W1 z) → (zs.map (·.length)).sum + zs.length ≤ 9 * zs.length
  | [], _ => Nat.le_refl _
  | z :: zs, h => by
    have ih := sum_w1 (zs := zs) fun a ha => h a (List.mem_cons_of_mem _ ha)
    have h1 := (h z List.mem_cons_self).1
    rw [List.map_cons, List.sum_cons, List.length_cons]
    omega
theorem ins_dup {ns : List Str} {y : Str} (hy : y ∈ ns) (i : Nat) : ¬ (ns.take i ++ y :: ns.drop i).Nodup := fun h => by
  rw [List.nodup_append] at h
  obtain ⟨h1, h2, h3⟩ := h
  rw [← List.take_append_drop i ns] at hy
  rcases List.mem_append.mp hy with hy | hy
  · exact h3 y hy y List.mem_cons_self rfl
  · exact (List.nodup_cons.mp h2).1 hy
section
variable {P : Program} {w : World} {K : PySem.W.Frag} {mg : Str → Option Value} {base : Heap} {f : Addr} {fd' : FuncData}
noncomputable def spAny : Sp := fun vs H Q _ => ∃ cell : Int, vs = [.int cell] ∧ ∀ (r : Lr) (a : Addr) (H' : Hp), r.ok → Same H H' → H' a = some (.lst r.vs) → Q (.ref a) H'
theorem scAny : FnScope ["cell", "number", "name", "count", "names"] ["cell"] (defScope sAny) := ⟨rfl, rfl, rfl, by decide +kernel, rfl, by decide +kernel, by decide +kernel⟩
theorem ok_any (FS : Fn P w K mg base "_law_stir" 1 ["cell", "k"] spStir) (F : Fun K "_law_any_row" "_law_any_row" sAny f fd') : FnOk P w K mg base (CX1 P w) 2 f fd' ["cell"] spAny := by
  have nd := scAny.nd
  refine F.ok1 scAny (fun vs H Q E h => ?_) (fun cdv A outer s H vs Q E hr h => ?_)
  · obtain ⟨cell, rfl, _⟩ := h
    rfl
  obtain ⟨cell, rfl, q⟩ := h
  refine ⟨_, (pss_cons (ps_set (i := 1) nd rfl (Or.inl rfl) (pf_call FS hr rfl (pass1 (E := E)) (pa_cons (pv 0) (pa_cons pe_int pa_nil))))
    (pss_cons (ps_set (i := 2) nd rfl (Or.inl rfl) (pe_ix (ix_listK (K := K) rfl) (pe_lst (pa_cons pe_str (pa_cons pe_str (pa_cons pe_str pa_nil)))) (pe_op op_mod (pe_op op_fdiv (pv 1) pe_int) pe_int) (fun _ _ => rfl)))
    (pss_cons (ps_set (i := 3) nd rfl (Or.inl rfl) (pe_op op_mod (pe_op op_fdiv (pv 1) pe_int) pe_int))
    (pss_cons (ps_if (pt_cmpR op_lt (pe_op op_mod (pv 1) pe_int) pe_int (nomark _)) (pss_one (ps_ret (pe_lst (pa_cons (pe_ix (ix_listK (K := K) rfl) (pe_lst (pa_cons pe_str (pa_cons pe_str (pa_cons pe_str pa_nil)))) (pe_op op_mod (pe_op op_fdiv (pv 1) pe_int) pe_int) (fun _ _ => rfl)) (pa_cons pe_str (pa_cons pe_str (pa_cons pe_int pa_nil))))))) pss_nil)
    (pss_cons (ps_if (pt_cmpR op_lt (pe_op op_mod (pv 1) pe_int) pe_int (nomark _)) (pss_one (ps_ret (pe_lst (pa_cons (pe_ix (ix_listK (K := K) rfl) (pe_lst (pa_cons pe_str (pa_cons pe_str (pa_cons pe_str pa_nil)))) (pe_op op_sub (pe_op op_mod (pv 1) pe_int) pe_int) (fun _ _ => rfl)) (pa_cons (pe_ix (ix_listK (K := K) rfl) (pe_lst (pa_cons pe_str (pa_cons pe_str (pa_cons pe_str pa_nil)))) (pe_op op_sub (pe_op op_mod (pv 1) pe_int) pe_int) (fun _ _ => rfl)) (pa_cons pe_str (pa_cons pe_int pa_nil))))))) pss_nil)
    (pss_cons (ps_if (pt_cmpR op_lt (pe_op op_mod (pv 1) pe_int) pe_int (nomark _)) (pss_one (ps_ret (pe_lst (pa_cons pe_str (pa_cons pe_str (pa_cons pe_str (pa_cons pe_int pa_nil))))))) pss_nil)
    (pss_cons (ps_if (pt_cmpR op_lt (pe_op op_mod (pv 1) pe_int) pe_int (nomark _)) (pss_one (ps_ret (pe_lst (pa_cons pe_str (pa_cons pe_str (pa_cons pe_str (pa_cons pe_int pa_nil))))))) pss_nil)
    (pss_cons (ps_if (pt_cmpR op_eq (pe_op op_mod (pv 1) pe_int) pe_int (nomark _)) (pss_one (ps_ret (pe_lst (pa_cons (pe_bm PySem.F.plainAttrs_str PySem.F.slot_str_join PySem.F.type_str_join mt_joinW pe_str (pa_cons (pe_op op_cat (pe_lst (pa_cons pe_str (pa_cons (pv 2) pa_nil))) (pe_slice sl_list (pe_lst (pa_cons pe_str (pa_cons pe_str (pa_cons pe_str (pa_cons pe_str pa_nil))))) po_none (po_some (pv 3)))) pa_nil)) (pa_cons pe_str (pa_cons (pv 2) (pa_cons (pv 3) pa_nil))))))) pss_nil)
    (pss_cons (ps_if (PW.pt (pw_and (pt_cmpR op_eq (pe_op op_mod (pe_op op_fdiv (pv 1) pe_int) pe_int) pe_int (nomark _)) (pw_and1 (pt_cmpR op_gt (pv 3) pe_int (nomark _))))) (pss_cons (ps_set (i := 4) nd rfl (Or.inl rfl) (pe_slice sl_list (pe_lst (pa_cons pe_str (pa_cons pe_str (pa_cons pe_str (pa_cons pe_str pa_nil))))) po_none (po_some (pe_op op_sub (pv 3) pe_int))))
    (pss_cons (ps_expr (pe_bm PySem.F.plainAttrs_list PySem.F.slot_list_insert PySem.F.type_list_insert mt_insert (pv 4) (pa_cons (pe_op op_mod (pe_op op_fdiv (pv 1) pe_int) (pv 3)) (pa_cons (pe_ix (ix_listK (K := K) rfl) (pv 4) (pe_op op_mod (pe_op op_fdiv (pv 1) pe_int) (pe_op op_sub (pv 3) pe_int)) (fun _ _ => rfl)) pa_nil))))
    (pss_one (ps_ret (pe_lst (pa_cons (pe_bm PySem.F.plainAttrs_str PySem.F.slot_str_join PySem.F.type_str_join mt_joinW pe_str (pa_cons (pe_op op_cat (pe_lst (pa_cons pe_str (pa_cons (pv 2) pa_nil))) (pv 4)) pa_nil)) (pa_cons pe_str (pa_cons (pv 2) (pa_cons (pv 3) pa_nil))))))))) pss_nil)
    (pss_one (ps_ret (pe_lst (pa_cons (pe_bm PySem.F.plainAttrs_str PySem.F.slot_str_join PySem.F.type_str_join mt_joinW pe_str (pa_cons (pe_op op_cat (pe_lst (pa_cons pe_str (pa_cons (pv 2) pa_nil))) (pe_slice sl_list (pe_lst (pa_cons pe_str (pa_cons pe_str (pa_cons pe_str (pa_cons pe_str pa_nil))))) po_none (po_some (pv 3)))) pa_nil)) (pa_cons pe_str (pa_cons (pv 2) (pa_cons (pv 3) pa_nil)))))))))))))))), ?_⟩
  refine ⟨_, rfl, cell, 80, rfl, by decide, by decide, fun N n0 n1 => ?_⟩
  refine ⟨le3, fun D1 hD1 => ⟨_, rfl, _, _, rfl, rfl, ⟨by decide, by decide⟩, _, _, rfl, rfl, (by show (0 : Int) < 3; decide), ?_⟩⟩
  have b1 := mod_lt (N / 16) (show (0 : Int) < 3 by decide)
  obtain ⟨v, hv, hm⟩ := at_mem (xs := [V.str "hole", V.str "head", V.str "hol"]) b1.1 b1.2
  have hx : ∃ x : Str, v = .str x ∧ W1 x ∧ GoodN x := by
    simp only [List.mem_cons, List.not_mem_nil, or_false] at hm
    rcases hm with rfl | rfl | rfl
    · exact ⟨_, rfl, w_hole⟩
    · exact ⟨_, rfl, w_head⟩
    · exact ⟨_, rfl, w_hol⟩
  obtain ⟨x, rfl, wx, gx⟩ := hx
  refine ⟨D1, _, _, .str x, rfl, rfl, SqL.of upd_same, hv, ?_⟩
  have s1 := same_upd hD1 (.lst [V.str "hole", V.str "head", V.str "hol"])
  generalize upd H D1 (.lst [V.str "hole", V.str "head", V.str "hol"]) = H1 at s1 ⊢
  refine ⟨_, rfl, _, _, rfl, rfl, ⟨by decide, by decide⟩, _, _, rfl, rfl, (by show (0 : Int) < 5; decide), ?_⟩
  have b2 := mod_lt (N / 48) (show (0 : Int) < 5 by decide)
  obtain ⟨c, hc⟩ : ∃ c, N / 48 % 5 = c := ⟨_, rfl⟩
  rw [hc] at b2
  have b3 := mod_lt N (show (0 : Int) < 16 by decide)
  have fin : ∀ (r : Lr) (a : Addr) (H2 : Hp), r.ok → Same H1 H2 → H2 a = none → Q (.ref a) (upd H2 a (.lst r.vs)) := fun r a H2 ok s2 ha => q r a _ ok (s1.trans (s2.trans (same_upd ha _))) upd_same
  have fin2 : ∀ (r : Lr) (a : Addr) (H2 : Hp) (vs : List V), vs = r.vs → r.ok → Same H1 H2 → H2 a = none → Q (.ref a) (upd H2 a (.lst vs)) := fun r a H2 vs e ok s2 ha => by rw [e]; exact fin r a H2 ok s2 ha
  refine ⟨_, rfl, _, _, rfl, rfl, (by show (0 : Int) < 16; decide), _, _, rfl, rfl, _, rfl, ?_⟩
  refine ite2 (fun _ => ?_) (fun h1 => ?_)
  · refine ⟨le3, fun D2 hD2 => ⟨_, rfl, _, _, rfl, rfl, ⟨by decide, by decide⟩, _, _, rfl, rfl, (by show (0 : Int) < 3; decide), ?_⟩⟩
    obtain ⟨v, hv, hm⟩ := at_mem (xs := [V.str "hold 1", V.str "fast x by a", V.str "let a a+1"]) b1.1 b1.2
    have hx : ∃ t : Str, v = .str t ∧ Lr.ok ⟨t, "plain", "", 0, .plain⟩ := by
      simp only [List.mem_cons, List.not_mem_nil, or_false] at hm
      rcases hm with rfl | rfl | rfl
      · exact ⟨_, rfl, lr_hold⟩
      · exact ⟨_, rfl, lr_fast⟩
      · exact ⟨_, rfl, lr_let⟩
    obtain ⟨t, rfl, ok⟩ := hx
    exact ⟨D2, _, _, .str t, rfl, rfl, SqL.of upd_same, hv, le4, fun a ha => fin _ a _ ok (same_upd hD2 _) ha⟩
  refine ⟨_, rfl, _, _, rfl, rfl, (by show (0 : Int) < 16; decide), _, _, rfl, rfl, _, rfl, ?_⟩
  refine ite2 (fun h2 => ?_) (fun h2 => ?_)
  · have g1 : ¬ N % 16 < 3 := fun z => h1 (decide_eq_true z)
    have g2 : N % 16 < 6 := of_decide_eq_true h2
    refine ⟨le3, fun D2 hD2 => ⟨_, rfl, _, _, rfl, rfl, (by show (0 : Int) < 16; decide), _, _, rfl, rfl, ?_⟩⟩
    have tri : N % 16 - 3 = 0 ∨ N % 16 - 3 = 1 ∨ N % 16 - 3 = 2 := by omega
    have hv : ∃ (t k : Str) (rk : Rk), atI [V.str "times n 2", V.str "if a < 1", V.str "if a = n"] (N % 16 - 3) = some (.str t) ∧ atI [V.str "times", V.str "if", V.str "if"] (N % 16 - 3) = some (.str k) ∧ Lr.ok ⟨t, k, "", 0, rk⟩ := by
      rcases tri with e | e | e
      · rw [e]
        exact ⟨_, _, _, rfl, rfl, lr_times⟩
      · rw [e]
        exact ⟨_, _, _, rfl, rfl, lr_if1⟩
      · rw [e]
        exact ⟨_, _, _, rfl, rfl, lr_if2⟩
    obtain ⟨t, k, rk, e1, e2, ok⟩ := hv
    refine ⟨D2, _, _, .str t, rfl, rfl, SqL.of upd_same, e1, le3, fun D3 hD3 => ⟨_, rfl, _, _, rfl, rfl, (by show (0 : Int) < 16; decide), _, _, rfl, rfl, D3, _, _, .str k, rfl, rfl, SqL.of upd_same, e2, le4, fun a ha => ?_⟩⟩
    exact fin _ a _ ok ((same_upd hD2 _).trans (same_upd hD3 _)) ha
  refine ⟨_, rfl, _, _, rfl, rfl, (by show (0 : Int) < 16; decide), _, _, rfl, rfl, _, rfl, ?_⟩
  refine ite2 (fun _ => ⟨le4, fun a ha => fin _ a _ lr_else (Same.refl _) ha⟩) (fun h3 => ?_)
  refine ⟨_, rfl, _, _, rfl, rfl, (by show (0 : Int) < 16; decide), _, _, rfl, rfl, _, rfl, ?_⟩
  refine ite2 (fun _ => ⟨le4, fun a ha => fin _ a _ lr_end (Same.refl _) ha⟩) (fun h4 => ?_)
  refine ⟨_, rfl, _, _, rfl, rfl, (by show (0 : Int) < 16; decide), rfl, _, rfl, ?_⟩
  -- words joined
  have jb : ∀ (k : Str) (zs : List Str), W1 k → (∀ z ∈ zs, W1 z) → zs.length ≤ 4 → ((k :: x :: zs).map (·.length)).sum + (k :: x :: zs).length ≤ 1048576 := fun k zs hk hz hl => by
    have := sum_w1 (zs := k :: x :: zs) (fun a ha => by
      rcases List.mem_cons.mp ha with rfl | ha
      · exact hk
      rcases List.mem_cons.mp ha with rfl | ha
      · exact wx
      · exact hz a ha)
    rw [show (k :: x :: zs).length = zs.length + 2 from rfl] at this ⊢
    omega
  have ecut : ∀ zs : List Str, cutV (zs.map V.str) none (some c) = (zs.take c.toNat).map V.str := fun zs => by rw [cut_to _ _ b2.1, List.map_take]
  have len4 : ∀ zs : List Str, zs.length = 4 → (zs.take c.toNat).length = c.toNat := fun zs e => by rw [List.length_take, e]; omega
  have ec : ((c.toNat : Nat) : Int) = c := by omega
  refine ite2 (fun _ => ?_) (fun h5 => ?_)
  · refine ⟨rfl, _, rfl, le2, fun D2 hD2 => ⟨le4, fun D3 hD3 => ?_⟩⟩
    refine ⟨_, rfl, c, congrArg V.int hc, D3, _, rfl, SqL.of upd_same, fun D4 hD4 => ?_⟩
    have hv : cutV [V.str "1", V.str "a", V.str "n", V.str "q"] none (some c) = (asC.take c.toNat).map V.str := ecut asC
    rw [hv]
    have ok := call_lr (as := asC.take c.toNat) wx gx (fun a ha => asC_ok a (List.mem_of_mem_take ha)) (by rw [len4 _ rfl]; omega)
    rw [len4 _ rfl] at ok
    have s3 := (same_upd hD2 (.lst [V.str "call", V.str x])).trans (same_upd hD3 (.lst [V.str "1", V.str "a", V.str "n", V.str "q"]))
    have d2 : upd (upd H1 D2 (.lst [V.str "call", V.str x])) D3 (.lst [V.str "1", V.str "a", V.str "n", V.str "q"]) D2 = some (.lst [V.str "call", V.str x]) := same_upd hD3 _ _ _ upd_same
    generalize upd (upd H1 D2 (.lst [V.str "call", V.str x])) D3 (.lst [V.str "1", V.str "a", V.str "n", V.str "q"]) = H3 at hD4 s3 d2 ⊢
    have s4 := s3.trans (same_upd hD4 (.lst ((asC.take c.toNat).map V.str)))
    refine ⟨D2, D4, _, _, rfl, rfl, same_upd hD4 _ _ _ d2, upd_same, ?_, fun D5 hD5 => ?_⟩
    · rw [List.length_map, len4 _ rfl]
      exact Nat.le_of_lt (line3 (c := 1000) (by show 2 + c.toNat ≤ 1000; omega) (by decide))
    generalize upd H3 D4 (.lst ((asC.take c.toNat).map V.str)) = H4 at s4 hD5 ⊢
    refine ⟨" ", D5, "call" :: x :: asC.take c.toNat, rfl, rfl, SqL.of upd_same, jb _ _ w1_call (fun z hz => (asC_ok z (List.mem_of_mem_take hz)).1) (by rw [len4 _ rfl]; omega), by decide +kernel, ?_⟩
    refine ⟨_, rfl, _, rfl, le4, fun a ha => ?_⟩
    refine fin2 _ a _ _ ?_ ok (s4.trans (same_upd hD5 _)) ha
    show [_, _, _, V.int (N / 48 % 5)] = [_, _, _, V.int ((c.toNat : Nat) : Int)]
    rw [ec, hc]
  refine ⟨_, rfl, _, _, rfl, rfl, ⟨by decide, by decide⟩, _, _, rfl, rfl, (by show (0 : Int) < 6; decide), rfl, _, rfl, ?_⟩
  refine ite2 (fun _ => ⟨_, rfl, _, _, rfl, rfl, _, rfl, ite2 (fun h6 => ?_) (fun _ => ?_)⟩) (fun _ => ?_)
  · have c2 : 1 < c := by
      have := of_decide_eq_true h6
      rw [← hc]
      exact this
    refine ⟨le4, fun D2 hD2 => ?_⟩
    refine ⟨_, rfl, _, _, rfl, rfl, N / 48 % 5 - 1, rfl, D2, _, rfl, SqL.of upd_same, fun D3 hD3 => ?_⟩
    have hv : cutV [V.str "a", V.str "n", V.str "q", V.str "hole"] none (some (N / 48 % 5 - 1)) = (nsI.take (c - 1).toNat).map V.str := by
      rw [hc, cut_to _ _ (by omega), List.map_take]
      rfl
    rw [hv]
    obtain ⟨ns, hns⟩ : ∃ ns, nsI.take (c - 1).toNat = ns := ⟨_, rfl⟩
    have nsl : ns.length = (c - 1).toNat := by
      rw [← hns, List.length_take, show nsI.length = 4 from rfl]
      omega
    have nsok : ∀ a ∈ ns, W1 a ∧ GoodN a := fun a ha => nsI_ok a (List.mem_of_mem_take (hns.symm ▸ ha))
    rw [hns]
    have s3 := (same_upd hD2 (.lst [V.str "a", V.str "n", V.str "q", V.str "hole"]))
    generalize upd H1 D2 (.lst [V.str "a", V.str "n", V.str "q", V.str "hole"]) = H2 at hD3 s3 ⊢
    have hn : 0 ≤ N / 1440 % c ∧ N / 1440 % c < c := mod_lt _ (by omega)
    have hj : 0 ≤ N / 5760 % (c - 1) ∧ N / 5760 % (c - 1) < c - 1 := mod_lt _ (by omega)
    obtain ⟨v, hvv, hvm⟩ := at_mem (xs := ns.map V.str) hj.1 (by rw [List.length_map, nsl]; omega)
    obtain ⟨y, hy, rfl⟩ := List.mem_map.mp hvm
    refine ⟨_, rfl, .inl ⟨rfl, _, SqL.of upd_same⟩, _, rfl, _, _, rfl, rfl, ⟨by decide, by decide⟩, _, rfl, _, _, rfl, rfl, (by show (0 : Int) < N / 48 % 5; omega), ?_⟩
    refine ⟨_, rfl, _, rfl, _, _, rfl, rfl, ⟨by decide, by decide⟩, _, rfl, _, _, rfl, rfl, _, _, rfl, rfl, (by show (0 : Int) < N / 48 % 5 - 1; omega), D3, _, _, .str y, rfl, rfl, SqL.of upd_same, (by rw [← hc] at hvv; exact hvv), ?_⟩
    refine ⟨D3, ns.map V.str, N / 1440 % (N / 48 % 5), .str y, rfl, rfl, upd_same, (by rw [hc]; exact hn.1), (by rw [hc]; omega), line3 (c := 1000) (by rw [List.length_map, nsl]; omega) (by decide), ?_⟩
    rw [hc]
    obtain ⟨m, hm⟩ : ∃ m, min (N / 1440 % c).toNat (ns.map V.str).length = m := ⟨_, rfl⟩
    rw [hm, ← List.map_take, ← List.map_drop, ← List.map_cons (f := V.str) (a := y), ← List.map_append]
    obtain ⟨zs, hz⟩ : ∃ zs, ns.take m ++ y :: ns.drop m = zs := ⟨_, rfl⟩
    rw [hz]
    have zl : zs.length = c.toNat := by
      rw [← hz, List.length_append, List.length_cons, List.length_take, List.length_drop, nsl]
      omega
    have zok : ∀ a ∈ zs, W1 a ∧ GoodN a := fun a ha => by
      rw [← hz] at ha
      rcases List.mem_append.mp ha with ha | ha
      · exact nsok a (List.mem_of_mem_take ha)
      rcases List.mem_cons.mp ha with rfl | ha
      · exact nsok _ hy
      · exact nsok a (List.mem_of_mem_drop ha)
    have ok := twice_lr (ns := zs) wx gx zok (by rw [zl]; omega) (by rw [← hz]; exact ins_dup hy m)
    rw [zl] at ok
    have s4 : Same H1 (upd (upd H2 D3 (.lst (ns.map V.str))) D3 (.lst (zs.map V.str))) := same_in (s3.trans (same_upd hD3 _)) (s3.free hD3)
    have d3 : upd (upd H2 D3 (.lst (ns.map V.str))) D3 (.lst (zs.map V.str)) D3 = some (.lst (zs.map V.str)) := upd_same
    generalize upd (upd H2 D3 (.lst (ns.map V.str))) D3 (.lst (zs.map V.str)) = H3 at s4 d3 ⊢
    refine ⟨rfl, _, rfl, le2, fun D4 hD4 => ⟨_, rfl, D4, D3, _, _, rfl, rfl, upd_same, same_upd hD4 _ _ _ d3, ?_, fun D5 hD5 => ?_⟩⟩
    · rw [List.length_map, zl]
      exact Nat.le_of_lt (line3 (c := 1000) (by show 2 + c.toNat ≤ 1000; omega) (by decide))
    have s5 := s4.trans (same_upd hD4 (.lst [V.str "sub", V.str x]))
    generalize upd H3 D4 (.lst [V.str "sub", V.str x]) = H4 at s5 hD5 ⊢
    refine ⟨" ", D5, "sub" :: x :: zs, rfl, rfl, SqL.of upd_same, jb _ _ w1_sub (fun z hz => (zok z hz).1) (by rw [zl]; omega), by decide +kernel, ?_⟩
    refine ⟨_, rfl, _, rfl, le4, fun a ha => ?_⟩
    refine fin2 _ a _ _ ?_ ok (s5.trans (same_upd hD5 _)) ha
    show [_, _, _, V.int (N / 48 % 5)] = [_, _, _, V.int ((c.toNat : Nat) : Int)]
    rw [ec, hc]
  all_goals
    refine ⟨rfl, _, rfl, le2, fun D2 hD2 => ⟨le4, fun D3 hD3 => ?_⟩⟩
    refine ⟨_, rfl, c, congrArg V.int hc, D3, _, rfl, SqL.of upd_same, fun D4 hD4 => ?_⟩
    have hv : cutV [V.str "a", V.str "n", V.str "q", V.str "b"] none (some c) = (nsS.take c.toNat).map V.str := ecut nsS
    rw [hv]
    have ok := sub_lr (ns := nsS.take c.toNat) wx gx (fun a ha => nsS_ok a (List.mem_of_mem_take ha)) (by rw [len4 _ rfl]; omega) (nsS_nd.sublist (List.take_sublist _ _))
    rw [len4 _ rfl] at ok
    have s3 := (same_upd hD2 (.lst [V.str "sub", V.str x])).trans (same_upd hD3 (.lst [V.str "a", V.str "n", V.str "q", V.str "b"]))
    have d2 : upd (upd H1 D2 (.lst [V.str "sub", V.str x])) D3 (.lst [V.str "a", V.str "n", V.str "q", V.str "b"]) D2 = some (.lst [V.str "sub", V.str x]) := same_upd hD3 _ _ _ upd_same
    generalize upd (upd H1 D2 (.lst [V.str "sub", V.str x])) D3 (.lst [V.str "a", V.str "n", V.str "q", V.str "b"]) = H3 at hD4 s3 d2 ⊢
    have s4 := s3.trans (same_upd hD4 (.lst ((nsS.take c.toNat).map V.str)))
    refine ⟨D2, D4, _, _, rfl, rfl, same_upd hD4 _ _ _ d2, upd_same, ?_, fun D5 hD5 => ?_⟩
    · rw [List.length_map, len4 _ rfl]
      exact Nat.le_of_lt (line3 (c := 1000) (by show 2 + c.toNat ≤ 1000; omega) (by decide))
    generalize upd H3 D4 (.lst ((nsS.take c.toNat).map V.str)) = H4 at s4 hD5 ⊢
    refine ⟨" ", D5, "sub" :: x :: nsS.take c.toNat, rfl, rfl, SqL.of upd_same, jb _ _ w1_sub (fun z hz => (nsS_ok z (List.mem_of_mem_take hz)).1) (by rw [len4 _ rfl]; omega), by decide +kernel, ?_⟩
    refine ⟨_, rfl, _, rfl, le4, fun a ha => ?_⟩
    refine fin2 _ a _ _ ?_ ok (s4.trans (same_upd hD5 _)) ha
    show [_, _, _, V.int (N / 48 % 5)] = [_, _, _, V.int ((c.toNat : Nat) : Int)]
    rw [ec, hc]
end
end Car

set_option maxHeartbeats 2000000
namespace Car
open PySem L2
/-! ### rows on the heap -/
noncomputable def RsAt (H : Hp) : List Addr → List Lr → Prop
  | [], [] => True
  | a :: as, r :: rs => (H a = some (.lst r.vs) ∧ r.ok) ∧ RsAt H as rs
  | _, _ => False
theorem RsAt.same {H H' : Hp} (s : Same H H') : ∀ {as : List Addr} {rs : List Lr}, RsAt H as rs → RsAt H' as rs
  | [], [], _ => trivial
  | a :: as, r :: rs, ⟨h, t⟩ => ⟨⟨s _ _ h.1, h.2⟩, RsAt.same s t⟩
theorem RsAt.len {H : Hp} : ∀ {as : List Addr} {rs : List Lr}, RsAt H as rs → as.length = rs.length
  | [], [], _ => rfl
  | a :: as, r :: rs, ⟨_, t⟩ => by rw [List.length_cons, List.length_cons, t.len]
theorem RsAt.get {H : Hp} : ∀ {as : List Addr} {rs : List Lr} {i : Nat} {x : V}, RsAt H as rs → (as.map V.ref)[i]? = some x → ∃ a r, x = .ref a ∧ H a = some (.lst r.vs) ∧ r.ok ∧ rs[i]? = some r ∧ rs.drop i = r :: rs.drop (i + 1)
  | [], [], _, _, _, e => by simp at e
  | a :: as, r :: rs, 0, x, ⟨h, t⟩, e => by
    have : V.ref a = x := by simpa using e
    subst this
    exact ⟨a, r, rfl, h.1, h.2, rfl, rfl⟩
  | a :: as, r :: rs, i + 1, x, ⟨h, t⟩, e => by
    obtain ⟨a', r', h1, h2, h3, h4, h5⟩ := RsAt.get (i := i) (x := x) t (by simpa using e)
    exact ⟨a', r', h1, h2, h3, by simpa using h4, by simpa using h5⟩
theorem RsAt.snoc {H : Hp} {a : Addr} {r : Lr} (h : H a = some (.lst r.vs)) (ok : r.ok) : ∀ {as : List Addr} {rs : List Lr}, RsAt H as rs → RsAt H (as ++ [a]) (rs ++ [r])
  | [], [], _ => ⟨⟨h, ok⟩, trivial⟩
  | _ :: _, _ :: _, ⟨h1, t⟩ => ⟨h1, RsAt.snoc h ok t⟩
theorem RsAt.append {H : Hp} : ∀ {as : List Addr} {rs : List Lr} {bs : List Addr} {ss : List Lr}, RsAt H as rs → RsAt H bs ss → RsAt H (as ++ bs) (rs ++ ss)
  | [], [], _, _, _, h => h
  | _ :: _, _ :: _, _, _, ⟨h1, t⟩, h => ⟨h1, RsAt.append t h⟩
/-- a list of references is no row -/
theorem refs_ne {H : Hp} {D a : Addr} {as : List Addr} {r : Lr} (hD : H D = some (.lst (as.map V.ref))) (ha : H a = some (.lst r.vs)) : a ≠ D := fun z => by
  rw [z, hD] at ha
  cases as with
  | nil => cases ha
  | cons b bs => cases ha
theorem RsAt.upd {H : Hp} {D : Addr} {o : HO} (hD : ∀ r : Lr, H D ≠ some (.lst r.vs)) : ∀ {as : List Addr} {rs : List Lr}, RsAt H as rs → RsAt (L2.upd H D o) as rs
  | [], [], _ => trivial
  | a :: as, r :: rs, ⟨h, t⟩ => ⟨⟨by rw [upd_ne (fun z => hD r (by rw [← z]; exact h.1))]; exact h.1, h.2⟩, RsAt.upd hD t⟩
theorem refs_no {H : Hp} {D : Addr} {as : List Addr} (hD : H D = some (.lst (as.map V.ref))) : ∀ r : Lr, H D ≠ some (.lst r.vs) := fun r h => refs_ne hD h rfl
/-! ### what judging comes to -/
noncomputable def code : Er → Int
  | .long => 0
  | .row => 1
  | .place => 2
  | .deep => 3
  | .twice => 4
  | .opn => 5
  | .sub => 6
noncomputable def codeO : Except Er Unit → Int
  | .ok _ => -1
  | .error e => code e
noncomputable def codeJ (ks : List Rk) : Int := match runR M0 ks with
  | .ok M => codeO (endR M)
  | .error e => code e
section
variable {kd x : Str} {n : Nat} {rk : Rk} {M : DM}
theorem step_1 (h : LrW kd x n rk) (c : kd = "bad") : stepR M rk = .error .row := by
  cases h with
  | bad => rfl
  | _ => exact absurd c (by decide +kernel)
theorem step_2 (h : LrW kd x n rk) (c : (kd = "else" ∧ (M.un = [] ∨ M.un.getLast? ≠ some ("if" : Str))) ∨ (kd = "end" ∧ M.un = [])) : stepR M rk = .error .place := by
  rcases c with ⟨e, c⟩ | ⟨e, c⟩
  · cases h with
    | els =>
      show (if M.un.getLast? = some ("if" : Str) then _ else _) = _
      rw [if_neg]
      rcases c with c | c
      · rw [c]
        simp
      · exact c
    | _ => exact absurd e (by decide +kernel)
  · cases h with
    | fin =>
      show (if M.un = [] then _ else _) = _
      rw [if_pos c]
    | _ => exact absurd e (by decide +kernel)
theorem step_3 (h : LrW kd x n rk) (c : kd = "sub" ∨ kd = "twice") (hu : M.un ≠ []) : stepR M rk = .error .place := by
  cases h with
  | sub =>
    show (if M.un ≠ [] then _ else _) = _
    rw [if_pos hu]
  | twice =>
    show (if M.un ≠ [] then _ else _) = _
    rw [if_pos hu]
  | _ => exact absurd c (by decide +kernel)
theorem step_4 (h : LrW kd x n rk) (c : kd = "times" ∨ kd = "if") (hu : M.un.length = 6) : stepR M rk = .error .deep := by
  cases h with
  | times =>
    show (if M.un.length = 6 then _ else _) = _
    rw [if_pos hu]
  | iff =>
    show (if M.un.length = 6 then _ else _) = _
    rw [if_pos hu]
  | _ => exact absurd c (by decide +kernel)
theorem step_5 (h : LrW kd x n rk) (hu : (kd = "sub" ∨ kd = "twice") → M.un = []) (c : kd = "twice" ∨ (kd = "sub" ∧ (M.names.any fun p => decide (p.1 = x)) = true)) : stepR M rk = .error .twice := by
  rcases c with e | ⟨e, c⟩
  · cases h with
    | twice =>
      show (if M.un ≠ [] then _ else if _ ∨ true = true then _ else _) = _
      rw [if_neg (fun z => z (hu (.inr rfl))), if_pos (.inr rfl)]
    | _ => exact absurd e (by decide +kernel)
  · cases h with
    | sub =>
      show (if M.un ≠ [] then _ else if _ ∨ false = true then _ else _) = _
      rw [if_neg (fun z => z (hu (.inl rfl))), if_pos (.inl c)]
    | _ => exact absurd e (by decide +kernel)
noncomputable def un1 (kd : Str) (un : List Str) : List Str := if kd = "else" then un.dropLast ++ [("else" : Str)] else un
noncomputable def un2 (kd : Str) (un : List Str) : List Str := if kd = "end" then un.dropLast else un
noncomputable def un3 (kd : Str) (un : List Str) : List Str := if kd = "times" ∨ kd = "if" ∨ kd = "sub" then un ++ [kd] else un
noncomputable def nm4 (kd x : Str) (n : Nat) (ns : List (Str × Nat)) : List (Str × Nat) := if kd = "sub" then ns ++ [(x, n)] else ns
theorem step_j (h : LrW kd x n rk) (n1 : kd ≠ "bad") (n2 : ¬ ((kd = "else" ∧ (M.un = [] ∨ M.un.getLast? ≠ some ("if" : Str))) ∨ (kd = "end" ∧ M.un = []))) (n3 : (kd = "sub" ∨ kd = "twice") → M.un = []) (n4 : (kd = "times" ∨ kd = "if") → M.un.length ≠ 6)
    (n5 : ¬ (kd = "twice" ∨ (kd = "sub" ∧ (M.names.any fun p => decide (p.1 = x)) = true))) : ∃ M', stepR M rk = .ok M' ∧ M'.un = un3 kd (un2 kd (un1 kd M.un)) ∧ M'.names = nm4 kd x n M.names := by
  unfold un1 un2 un3 nm4
  cases h with
  | bad => exact absurd rfl n1
  | plain => exact ⟨M, rfl, by rw [if_neg (by decide +kernel), if_neg (by decide +kernel), if_neg (by decide +kernel)], by rw [if_neg (by decide +kernel)]⟩
  | call => exact ⟨_, rfl, by rw [if_neg (by decide +kernel), if_neg (by decide +kernel), if_neg (by decide +kernel)], by rw [if_neg (by decide +kernel)]⟩
  | times => exact ⟨_, by show (if M.un.length = 6 then _ else _) = _; rw [if_neg (n4 (.inl rfl))], by rw [if_pos (by decide +kernel), if_neg (by decide +kernel), if_neg (by decide +kernel)], by rw [if_neg (by decide +kernel)]⟩
  | iff => exact ⟨_, by show (if M.un.length = 6 then _ else _) = _; rw [if_neg (n4 (.inr rfl))], by rw [if_pos (by decide +kernel), if_neg (by decide +kernel), if_neg (by decide +kernel)], by rw [if_neg (by decide +kernel)]⟩
  | els =>
    have g : M.un.getLast? = some ("if" : Str) := Classical.byContradiction fun z => n2 (.inl ⟨rfl, .inr z⟩)
    exact ⟨_, by show (if M.un.getLast? = some ("if" : Str) then _ else _) = _; rw [if_pos g], by rw [if_neg (by decide +kernel), if_neg (by decide +kernel), if_pos rfl], by rw [if_neg (by decide +kernel)]⟩
  | fin =>
    have g : ¬ M.un = [] := fun z => n2 (.inr ⟨rfl, z⟩)
    exact ⟨_, by show (if M.un = [] then _ else _) = _; rw [if_neg g], by rw [if_neg (by decide +kernel), if_pos rfl, if_neg (by decide +kernel)], by rw [if_neg (by decide +kernel)]⟩
  | twice => exact absurd (.inl rfl) n5
  | sub =>
    have g := n3 (.inl rfl)
    refine ⟨_, by show (if M.un ≠ [] then _ else if _ ∨ false = true then _ else _) = _; rw [if_neg (fun z => z g), if_neg (fun z => z.elim (fun z => n5 (.inr ⟨rfl, z⟩)) Bool.noConfusion)], ?_, ?_⟩
    · rw [if_pos (by decide +kernel), if_neg (by decide +kernel), if_neg (by decide +kernel), g]
      rfl
    · rw [if_pos rfl]
theorem step_un {M' : DM} (h : stepR M rk = .ok M') (hl : M.un.length ≤ 6) : M'.un.length ≤ 6 := by
  cases rk with
  | plain => cases h; exact hl
  | bad => cases h
  | call x n => cases h; exact hl
  | times =>
    dsimp only [stepR] at h
    split at h
    · cases h
    · cases h
      show (M.un ++ _).length ≤ 6
      rw [List.length_append, List.length_singleton]
      omega
  | iff =>
    dsimp only [stepR] at h
    split at h
    · cases h
    · cases h
      show (M.un ++ _).length ≤ 6
      rw [List.length_append, List.length_singleton]
      omega
  | els =>
    dsimp only [stepR] at h
    split at h
    · rename_i g
      cases h
      show (M.un.dropLast ++ _).length ≤ 6
      have : M.un ≠ [] := fun z => by rw [z] at g; simp at g
      have := List.length_pos_iff.mpr this
      rw [List.length_append, List.length_singleton, List.length_dropLast]
      omega
    · cases h
  | fin =>
    dsimp only [stepR] at h
    split at h
    · cases h
    · cases h
      show (M.un.dropLast).length ≤ 6
      rw [List.length_dropLast]
      omega
  | sub x n d =>
    dsimp only [stepR] at h
    split at h
    · cases h
    · split at h
      · cases h
      · cases h; show 1 ≤ 6; decide
theorem ok_lt {z : Str} (h : ∀ c ∈ cl z, c < 128) : PyData.strOk z = true := by
  unfold PyData.strOk
  rw [← Array.all_toList, List.all_eq_true]
  exact fun c hc => decide_eq_true (Nat.lt_of_lt_of_le (h c hc) (by decide))
noncomputable def Oks (zs : List Str) : Prop := ∀ z ∈ zs, PyData.strOk z = true
theorem Oks.snoc {zs : List Str} {z : Str} (h : Oks zs) (hz : PyData.strOk z = true) : Oks (zs ++ [z]) := fun y hy => by
  rcases List.mem_append.mp hy with hy | hy
  · exact h y hy
  · rw [List.mem_singleton.mp hy]; exact hz
theorem Oks.last {zs : List Str} (h : Oks zs) : Oks zs.dropLast := fun y hy => h y (List.dropLast_subset _ hy)
theorem step_oks {M' : DM} (h : stepR M rk = .ok M') (hl : Oks M.un) : Oks M'.un := by
  cases rk with
  | plain => cases h; exact hl
  | bad => cases h
  | call x n => cases h; exact hl
  | times =>
    dsimp only [stepR] at h
    split at h
    · cases h
    · cases h; exact hl.snoc (by decide +kernel)
  | iff =>
    dsimp only [stepR] at h
    split at h
    · cases h
    · cases h; exact hl.snoc (by decide +kernel)
  | els =>
    dsimp only [stepR] at h
    split at h
    · cases h; exact hl.last.snoc (by decide +kernel)
    · cases h
  | fin =>
    dsimp only [stepR] at h
    split at h
    · cases h
    · cases h; exact hl.last
  | sub x n d =>
    dsimp only [stepR] at h
    split at h
    · cases h
    · split at h
      · cases h
      · cases h
        exact Oks.snoc (zs := []) (fun _ h => by cases h) (by decide +kernel)
noncomputable def callsOf (ks : List Rk) : List (Str × Nat) := ks.filterMap fun k => match k with | .call x n => some (x, n) | _ => none
theorem step_cs {M' : DM} {k : Rk} (h : stepR M k = .ok M') : M'.calls = M.calls ++ callsOf [k] := by
  cases k with
  | plain => cases h; exact (List.append_nil _).symm
  | bad => cases h
  | call x n => cases h; rfl
  | times =>
    dsimp only [stepR] at h
    split at h
    · cases h
    · cases h; exact (List.append_nil _).symm
  | iff =>
    dsimp only [stepR] at h
    split at h
    · cases h
    · cases h; exact (List.append_nil _).symm
  | els =>
    dsimp only [stepR] at h
    split at h
    · cases h; exact (List.append_nil _).symm
    · cases h
  | fin =>
    dsimp only [stepR] at h
    split at h
    · cases h
    · cases h; exact (List.append_nil _).symm
  | sub x n d =>
    dsimp only [stepR] at h
    split at h
    · cases h
    · split at h
      · cases h
      · cases h; exact (List.append_nil _).symm
end
end Car

set_option maxHeartbeats 2000000
namespace Car
open PySem L2
structure JI (H0 H : Hp) (O S : Addr) (un : List Str) (nm : List (Str × Nat)) : Prop where
  sm : Same H0 H
  o : H O = some (.lst (un.map V.str))
  s : H S = some (.dK (nmK nm))
  hO : H0 O = none
  hS : H0 S = none
theorem JI.same {H0 H H' : Hp} {O S : Addr} {un : List Str} {nm : List (Str × Nat)} (J : JI H0 H O S un nm) (s : Same H H') : JI H0 H' O S un nm := ⟨J.sm.trans s, s _ _ J.o, s _ _ J.s, J.hO, J.hS⟩
theorem JI.ne {H0 H : Hp} {O S : Addr} {un : List Str} {nm : List (Str × Nat)} (J : JI H0 H O S un nm) : O ≠ S := fun z => by
  have := J.o
  rw [z, J.s] at this
  cases this
theorem JI.setO {H0 H : Hp} {O S : Addr} {un : List Str} {nm : List (Str × Nat)} (J : JI H0 H O S un nm) (un' : List Str) : JI H0 (upd H O (.lst (un'.map V.str))) O S un' nm := ⟨same_in J.sm J.hO, upd_same, by rw [upd_ne J.ne.symm]; exact J.s, J.hO, J.hS⟩
theorem JI.setS {H0 H : Hp} {O S : Addr} {un : List Str} {nm : List (Str × Nat)} (J : JI H0 H O S un nm) (nm' : List (Str × Nat)) : JI H0 (upd H S (.dK (nmK nm'))) O S un nm' := ⟨same_in J.sm J.hS, by rw [upd_ne J.ne]; exact J.o, upd_same, J.hO, J.hS⟩
section
variable {K : PySem.W.Frag} {H : Hp}
theorem Rps.strs : ∀ zs : List Str, Rps K H (zs.map V.str) (zs.map PyData.str)
  | [] => .nil
  | z :: r => .cons (.str z) (Rps.strs r)
theorem strs_can : ∀ zs : List Str, Oks zs → PyData.canLayAll0 (zs.map PyData.str) = true ∧ PyData.depthAll (zs.map PyData.str) = 0
  | [], _ => ⟨rfl, rfl⟩
  | z :: r, h => by
    obtain ⟨h1, h2⟩ := strs_can r fun y hy => h y (List.mem_cons_of_mem _ hy)
    rw [List.map_cons, PyData.canLayAll0, PyData.depthAll, h1, h2, PyData.canLay0, h z List.mem_cons_self]
    exact ⟨rfl, rfl⟩
theorem shaped_strs {zs : List Str} (h : Oks zs) : SeqAt.shaped (.list (zs.map PyData.str)) = true := by
  obtain ⟨h1, h2⟩ := strs_can zs h
  unfold SeqAt.shaped
  rw [PyData.canLay0, h1, PyData.depth, h2]
  rfl
theorem eqv_nil (ds : List PyData) : PyData.eqv (.list ds) (.list []) = decide (ds.length = 0) := by
  cases ds with
  | nil => decide +kernel
  | cons d r => rw [PyData.eqv, PyData.eqvAll]; simp
end
theorem eqv_un (un : List Str) : PyData.eqv (.list (un.map PyData.str)) (.list []) = decide (un = []) := by
  rw [eqv_nil, List.length_map]
  cases un with
  | nil => rfl
  | cons a r => rw [decide_eq_false (by simp), decide_eq_false (by simp)]
theorem set_last {un ks : List Str} {k : Str} (h : un = ks ++ [k]) (z : Str) : ixN (un.map V.str).length (-1) = some ks.length ∧ (un.map V.str).set ks.length (.str z) = (un.dropLast ++ [z]).map V.str := by
  subst h
  constructor
  · rw [List.length_map, List.length_append, List.length_singleton]
    unfold ixN
    rw [if_neg (by decide)]
    simp
    omega
  · simp
noncomputable def Lr.dat (r : Lr) : PyData := .list [.str r.t, .str r.kd, .str r.x, .int r.n]
theorem LrW.so {kd x : Str} {n : Nat} {rk : Rk} (h : LrW kd x n rk) : PyData.strOk kd = true := by
  cases h <;> decide +kernel
theorem RsAt.rps {K : PySem.W.Frag} {H : Hp} : ∀ {as : List Addr} {rs : List Lr}, RsAt H as rs → Rps K H (as.map V.ref) (rs.map Lr.dat)
  | [], [], _ => .nil
  | a :: as, r :: rs, ⟨h, t⟩ => .cons (.lst (SqL.of h.1) (.cons (.str _) (.cons (.str _) (.cons (.str _) (.cons (.int _) .nil))))) (RsAt.rps t)
theorem RsAt.can {H : Hp} : ∀ {as : List Addr} {rs : List Lr}, RsAt H as rs → PyData.canLayAll0 (rs.map Lr.dat) = true ∧ PyData.depthAll (rs.map Lr.dat) ≤ 1
  | [], [], _ => ⟨rfl, by decide⟩
  | a :: as, r :: rs, ⟨h, t⟩ => by
    obtain ⟨h1, h2⟩ := RsAt.can t
    have c1 : PyData.canLay0 r.dat = true := by
      unfold Lr.dat
      simp only [PyData.canLay0, PyData.canLayAll0, ok_lt h.2.so, ok_lt h.2.xo, h.2.kn.so, Bool.and_true]
    have c2 : PyData.depth r.dat = 1 := by
      unfold Lr.dat
      simp [PyData.depth, PyData.depthAll]
    rw [List.map_cons, PyData.canLayAll0, PyData.depthAll, h1, c1, c2]
    exact ⟨rfl, by omega⟩
theorem RsAt.shaped {H : Hp} {as : List Addr} {rs : List Lr} (h : RsAt H as rs) : SeqAt.shaped (.list (rs.map Lr.dat)) = true := by
  obtain ⟨h1, h2⟩ := h.can
  unfold SeqAt.shaped
  rw [PyData.canLay0, h1, PyData.depth]
  have : PyData.depthAll (rs.map Lr.dat) + 1 ≤ 2 := by omega
  simp
  omega
theorem last_str (un : List Str) : un = [] ∨ ∃ ks k, un = ks ++ [k] ∧ atI (un.map V.str) (-1) = some (.str k) ∧ un.getLast? = some k := by
  rcases List.eq_nil_or_concat un with hu | ⟨ks, k, hu⟩
  · exact .inl hu
  · rw [List.concat_eq_append] at hu
    refine .inr ⟨ks, k, hu, ?_, by rw [hu, List.getLast?_concat]⟩
    rw [hu, List.map_append]
    exact last_some
section
variable {P : Program} {w : World} {K : PySem.W.Frag} {mg : Str → Option Value} {base : Heap} {f : Addr} {fd' : FuncData}
noncomputable def spJudged : Sp := fun vs H Q _ => ∃ (D : Addr) (as : List Addr) (rs : List Lr), vs = [.ref D] ∧ H D = some (.lst (as.map V.ref)) ∧ RsAt H as rs ∧ rs.length ≤ 1000 ∧ ∀ H', Same H H' → Q (.int (codeJ (rs.map Lr.rk))) H'
theorem scJudged : FnScope ["rows", "opened", "subs", "text", "kind", "name", "count"] ["rows"] (defScope sJudged) := ⟨rfl, rfl, rfl, by decide +kernel, rfl, by decide +kernel, by decide +kernel⟩
theorem ndrs : (["row", "subs"] : List Str).Nodup := by decide +kernel
theorem ok_judged (T : LawT mg) (F : Fun K "_law_judged" "_law_judged" sJudged f fd') : FnOk P w K mg base (CX1 P w) 2 f fd' ["rows"] spJudged := by
  have nd := scJudged.nd
  refine F.ok1 scJudged (fun vs H Q E h => ?_) (fun cdv A outer s H vs Q E hr h => ?_)
  · obtain ⟨D, as, rs, rfl, _⟩ := h
    rfl
  obtain ⟨D, as, rs, rfl, hD, ra, hl, q⟩ := h
  have hu : (A.deeper (PyProof.Rows.envOfC "_law_judged" (defScope sJudged) s.heap.objs.size f cdv)).units + 1 < cLine := by have := hr.units; omega
  refine ⟨_, (pss_cons (ps_set (i := 1) nd rfl (Or.inl rfl) (pe_lst pa_nil))
    (pss_cons (ps_set (i := 2) nd rfl (Or.inr rfl) pe_dnewK)
    (pss_cons (ps_for own1 rfl (pi_list (pv 0)) (pg_lst rfl (pgs_cons (pg_name (i := 3) nd rfl (Or.inl rfl)) (pgs_cons (pg_name (i := 4) nd rfl (Or.inl rfl)) (pgs_cons (pg_name (i := 5) nd rfl (Or.inl rfl)) (pgs_cons (pg_name (i := 6) nd rfl (Or.inl rfl)) pgs_nil))))) (pss_mid (ps_if (pt_cmpR op_eq (pv 4) pe_str (nomark _)) (pss_one (ps_ret pe_int)) pss_nil)
    (pss_mid (ps_if (PW.pt (pw_or (PW.pt (pw_and (pt_cmpR op_eq (pv 4) pe_str (nomark _)) (pw_and1 (PW.pt (pw_or (pt_cmpR (op_eqD hr.units) (pv 1) (pe_lst pa_nil) (nomark _)) (pw_or1 (pt_cmpR op_ne (pe_ix (ix_listK (K := K) rfl) (pv 1) (pe_un un_neg pe_int) (fun _ _ => rfl)) pe_str (nomark _)))))))) (pw_or1 (PW.pt (pw_and (pt_cmpR op_eq (pv 4) pe_str (nomark _)) (pw_and1 (pt_cmpR (op_eqD hr.units) (pv 1) (pe_lst pa_nil) (nomark _)))))))) (pss_one (ps_ret pe_int)) pss_nil)
    (pss_mid (ps_if (PW.pt (pw_and (pt_cmpR op_in_seq (pv 4) (pe_lst (pa_cons pe_str (pa_cons pe_str pa_nil))) (by with_unfolding_all rfl)) (pw_and1 (pt_cmpR (op_neD hr.units) (pv 1) (pe_lst pa_nil) (nomark _))))) (pss_one (ps_ret pe_int)) pss_nil)
    (pss_mid (ps_if (PW.pt (pw_and (pt_cmpR op_in_seq (pv 4) (pe_lst (pa_cons pe_str (pa_cons pe_str pa_nil))) (by with_unfolding_all rfl)) (pw_and1 (pt_cmpR op_gt (pe_callB call_len_seq rfl T.len PySem.boot_len (pa_cons (pv 1) pa_nil)) pe_int (nomark _))))) (pss_one (ps_ret pe_int)) pss_nil)
    (pss_mid (ps_if (PW.pt (pw_or (pt_cmpR op_eq (pv 4) pe_str (nomark _)) (pw_or1 (PW.pt (pw_and (pt_cmpR op_eq (pv 4) pe_str (nomark _)) (pw_and1 (pt_cmp (pc_din hu (pv 5) (pv 2)) (by with_unfolding_all rfl)))))))) (pss_one (ps_ret pe_int)) pss_nil)
    (pss_mid (ps_if (pt_cmpR op_eq (pv 4) pe_str (nomark _)) (pss_one (ps_asg pe_str (pg_sub (pv 1) (pe_un un_neg pe_int) set_list))) pss_nil)
    (pss_mid (ps_if (pt_cmpR op_eq (pv 4) pe_str (nomark _)) (pss_one (ps_expr (pe_bm0 PySem.F.plainAttrs_list PySem.F.slot_list_pop PySem.F.type_list_pop mt_pop (pv 1)))) pss_nil)
    (pss_mid (ps_if (pt_cmpR op_in_seq (pv 4) (pe_lst (pa_cons pe_str (pa_cons pe_str (pa_cons pe_str pa_nil)))) (by with_unfolding_all rfl)) (pss_one (ps_expr (pe_bm PySem.F.plainAttrs_list PySem.F.slot_list_append PySem.F.type_list_append mt_append (pv 1) (pa_cons (pv 4) pa_nil)))) pss_nil)
    (pss_one (ps_if (pt_cmpR op_eq (pv 4) pe_str (nomark _)) (pss_one (ps_dput hu (pv 2) (pv 5) (pv 6) rfl)) pss_nil)))))))))))
    (pss_cons (ps_if (pt_cmpR (op_neD hr.units) (pv 1) (pe_lst pa_nil) (nomark _)) (pss_one (ps_ret pe_int)) pss_nil)
    (pss_cons (ps_if (pt_cmpR (op_neD hr.units) (pe_lc (own := ["row"]) (capn := ["subs"]) (capI := [2]) rfl (blkC (defScope sJudged) rfl rfl (by decide +kernel) rfl (fun y hy => by
      rcases List.mem_cons.mp hy with rfl | hy
      · exact ⟨rfl, rfl⟩
      cases hy)) (pi_list (pv 0)) (fun _ _ _ _ _ _ => pg_name (i := 0) ndrs rfl (Or.inl rfl)) (fun _ _ _ _ _ _ => (pifs_one (PW.pt (pw_and (pt_cmpR op_eq (pe_ix (ix_listK (K := K) rfl) (pv 0) pe_int (fun _ _ => rfl)) pe_str (nomark _)) (pw_and1 (pt_cmpR op_ne (pe_dget2 hu (pv 1) (pe_ix (ix_listK (K := K) rfl) (pv 0) pe_int (fun _ _ => rfl)) (pe_un un_neg pe_int) ⟨rfl, rfl, rfl, rfl⟩) (pe_ix (ix_listK (K := K) rfl) (pv 0) pe_int (fun _ _ => rfl)) (nomark _))))))) (fun _ _ _ _ _ _ => (pv 0))) (pe_lst pa_nil) (nomark _)) (pss_one (ps_ret pe_int)) pss_nil)
    (pss_one (ps_ret (pe_un un_neg pe_int)))))))), ?_⟩
  refine ⟨Nat.zero_le _, fun O hO => ?_⟩
  intro S hS
  have j0 : JI H (upd (upd H O (.lst [])) S (.dK [])) O S [] [] := ⟨(same_upd hO _).trans (same_upd hS _), same_upd hS _ _ _ upd_same, upd_same, hO, (same_upd hO _).free hS⟩
  generalize upd (upd H O (.lst [])) S (.dK []) = H1 at j0 ⊢
  refine ⟨_, rfl, D, rfl, ⟨_, SqL.of (j0.sm _ _ hD)⟩, ?_⟩
  refine for_list (K := K) (a := D) (xs := as.map V.ref) (fun i σ Hc => ∃ (M : DM) (o3 o4 o5 o6 : Option V), σ = [some (.ref D), some (.ref O), some (.ref S), o3, o4, o5, o6] ∧ JI H Hc O S M.un M.names ∧ M.un.length ≤ 6 ∧ Oks M.un ∧ M.names.length ≤ i ∧ runR M ((rs.map Lr.rk).drop i) = runR M0 (rs.map Lr.rk) ∧ M.calls ++ callsOf ((rs.map Lr.rk).drop i) = callsOf (rs.map Lr.rk)) ⟨M0, none, none, none, none, rfl, j0, by decide, fun _ h => (by cases h), Nat.zero_le _, rfl, rfl⟩ (fun i σ Hc _ ⟨_, _, _, _, _, _, J, _⟩ => SqL.of (J.sm _ _ hD)) ?_ ?_
  · rintro i y σ Hc hy ⟨M, o3, o4, o5, o6, rfl, J, hu6, hoks, hnl, hrun, hcs⟩
    obtain ⟨a, r, rfl, ha, ok, hri, hdr⟩ := ra.get hy
    have hi : i < rs.length := (List.getElem?_eq_some_iff.mp hri).1
    obtain ⟨t, kd, x, n, rk⟩ := r
    have hk : LrW kd x n rk := ok.kn
    rw [List.map_drop.symm, hdr, List.map_cons] at hrun hcs
    have ret : ∀ e H', stepR M rk = .error e → Same H H' → Q (.int (code e)) H' := fun e H' he s' => by
      have : runR M0 (rs.map Lr.rk) = .error e := by
        rw [← hrun]
        show (match stepR M rk with | .ok M' => runR M' _ | .error e => .error e) = _
        rw [he]
      have q' := q H' s'
      unfold codeJ at q'
      rw [this] at q'
      exact q'
    refine ⟨a, _, rfl, SqL.of (J.sm _ _ ha), rfl, _, _, rfl, _, _, rfl, _, _, rfl, _, _, rfl, rfl, ?_⟩
    -- bad
    refine ⟨fun σ H1 => σ = [some (.ref D), some (.ref O), some (.ref S), some (.str t), some (.str kd), some (.str x), some (.int n)] ∧ JI H H1 O S M.un M.names ∧ kd ≠ "bad", ?_, ?_⟩
    · refine ⟨_, rfl, rfl, _, rfl, ?_⟩
      rw [decS]
      by_cases h0 : kd = "bad"
      · rw [decide_eq_true h0]
        exact iteT (ret .row _ (step_1 hk h0) J.sm)
      · rw [decide_eq_false h0]
        exact iteF ⟨rfl, J, h0⟩
    clear J
    rintro σ Hc ⟨rfl, J, n1⟩
    -- place
    refine ⟨fun σ H1 => σ = [some (.ref D), some (.ref O), some (.ref S), some (.str t), some (.str kd), some (.str x), some (.int n)] ∧ JI H H1 O S M.un M.names ∧ ¬ ((kd = "else" ∧ (M.un = [] ∨ M.un.getLast? ≠ some ("if" : Str))) ∨ (kd = "end" ∧ M.un = [])), ?_, ?_⟩
    · refine ⟨_, rfl, rfl, _, rfl, ?_⟩
      rw [decS]
      by_cases h1 : kd = "else"
      · have h1e : kd ≠ "end" := by rw [h1]; decide +kernel
        rw [decide_eq_true h1]
        refine iteT ⟨_, rfl, Nat.zero_le _, fun T hT => ?_⟩
        have J1 := J.same (same_upd hT (.lst []))
        refine ⟨_, _, Rp.lst (SqL.of J1.o) (Rps.strs _), Rp.lst (SqL.of upd_same) .nil, shaped_strs hoks, by decide +kernel, _, rfl, ?_⟩
        rw [ifF, eqv_un]
        rcases last_str M.un with h2 | ⟨ks, k, hun, hat, hgl⟩
        · rw [decide_eq_true h2]
          exact iteT (iteT (iteT (ret .place _ (step_2 hk (.inl ⟨h1, .inl h2⟩)) J1.sm)))
        have h2 : M.un ≠ [] := by rw [hun]; simp
        rw [decide_eq_false h2]
        refine iteF ⟨_, rfl, _, rfl, O, _, -1, .str k, rfl, rfl, SqL.of J1.o, hat, rfl, _, rfl, ?_⟩
        rw [decS]
        by_cases h3 : k = "if"
        · rw [decide_eq_true h3]
          refine iteF ⟨_, rfl, rfl, _, rfl, ?_⟩
          rw [decS, decide_eq_false h1e]
          refine iteF (iteF ⟨rfl, J1, ?_⟩)
          rintro (⟨_, z | z⟩ | ⟨z, _⟩)
          · exact h2 z
          · exact z (by rw [hgl, h3])
          · exact h1e z
        · rw [decide_eq_false h3]
          exact iteT (iteT (ret .place _ (step_2 hk (.inl ⟨h1, .inr (by rw [hgl]; exact fun z => h3 (Option.some.inj z))⟩)) J1.sm))
      · rw [decide_eq_false h1]
        refine iteF (iteF ⟨_, rfl, rfl, _, rfl, ?_⟩)
        rw [decS]
        by_cases h4 : kd = "end"
        · rw [decide_eq_true h4]
          refine iteT ⟨_, rfl, Nat.zero_le _, fun T hT => ?_⟩
          have J1 := J.same (same_upd hT (.lst []))
          refine ⟨_, _, Rp.lst (SqL.of J1.o) (Rps.strs _), Rp.lst (SqL.of upd_same) .nil, shaped_strs hoks, by decide +kernel, _, rfl, ?_⟩
          rw [ifF, eqv_un]
          by_cases h2 : M.un = []
          · rw [decide_eq_true h2]
            exact iteT (ret .place _ (step_2 hk (.inr ⟨h4, h2⟩)) J1.sm)
          · rw [decide_eq_false h2]
            refine iteF ⟨rfl, J1, ?_⟩
            rintro (⟨z, _⟩ | ⟨_, z⟩)
            · exact h1 z
            · exact h2 z
        · rw [decide_eq_false h4]
          refine iteF (iteF ⟨rfl, J, ?_⟩)
          rintro (⟨z, _⟩ | ⟨z, _⟩)
          · exact h1 z
          · exact h4 z
    clear J
    rintro σ Hc ⟨rfl, J, n2⟩
    -- a sub within
    refine ⟨fun σ H1 => σ = [some (.ref D), some (.ref O), some (.ref S), some (.str t), some (.str kd), some (.str x), some (.int n)] ∧ JI H H1 O S M.un M.names ∧ ((kd = "sub" ∨ kd = "twice") → M.un = []), ?_, ?_⟩
    · refine ⟨_, rfl, le2, fun T hT => ⟨T, _, rfl, .inl (SqL.of upd_same), rfl, rfl, _, rfl, ?_⟩⟩
      have J1 := J.same (same_upd hT (.lst [.str "sub", .str "twice"]))
      generalize upd Hc T (.lst [.str "sub", .str "twice"]) = H2 at J1 ⊢
      rw [ifF, in2, ← Bool.decide_or]
      by_cases h1 : kd = "sub" ∨ kd = "twice"
      · rw [decide_eq_true h1]
        refine iteT ⟨_, rfl, Nat.zero_le _, fun T2 hT2 => ?_⟩
        have J2 := J1.same (same_upd hT2 (.lst []))
        refine ⟨_, _, Rp.lst (SqL.of J2.o) (Rps.strs _), Rp.lst (SqL.of upd_same) .nil, shaped_strs hoks, by decide +kernel, _, rfl, ?_⟩
        rw [ifT, eqv_un]
        by_cases h2 : M.un = []
        · rw [decide_eq_true h2]
          exact iteF ⟨rfl, J2, fun _ => h2⟩
        · rw [decide_eq_false h2]
          exact iteT (ret .place _ (step_3 hk h1 h2) J2.sm)
      · rw [decide_eq_false h1]
        exact iteF (iteF ⟨rfl, J1, fun z => absurd z h1⟩)
    clear J
    rintro σ Hc ⟨rfl, J, n3⟩
    -- too deep
    refine ⟨fun σ H1 => σ = [some (.ref D), some (.ref O), some (.ref S), some (.str t), some (.str kd), some (.str x), some (.int n)] ∧ JI H H1 O S M.un M.names ∧ ((kd = "times" ∨ kd = "if") → M.un.length ≠ 6), ?_, ?_⟩
    · refine ⟨_, rfl, le2, fun T hT => ⟨T, _, rfl, .inl (SqL.of upd_same), rfl, rfl, _, rfl, ?_⟩⟩
      have J1 := J.same (same_upd hT (.lst [.str "times", .str "if"]))
      generalize upd Hc T (.lst [.str "times", .str "if"]) = H2 at J1 ⊢
      rw [ifF, in2, ← Bool.decide_or]
      by_cases h1 : kd = "times" ∨ kd = "if"
      · rw [decide_eq_true h1]
        refine iteT ⟨_, rfl, O, _, rfl, .inl (SqL.of J1.o), _, _, rfl, rfl, _, rfl, ?_⟩
        rw [List.length_map]
        by_cases h2 : M.un.length = 6
        · rw [decide_eq_true (show ((M.un.length : Nat) : Int) > 5 by omega)]
          exact iteT (ret .deep _ (step_4 hk h1 h2) J1.sm)
        · rw [decide_eq_false (show ¬ ((M.un.length : Nat) : Int) > 5 by omega)]
          exact iteF ⟨rfl, J1, fun _ => h2⟩
      · rw [decide_eq_false h1]
        exact iteF (iteF ⟨rfl, J1, fun z => absurd z h1⟩)
    clear J
    rintro σ Hc ⟨rfl, J, n4⟩
    -- twice
    refine ⟨fun σ H1 => σ = [some (.ref D), some (.ref O), some (.ref S), some (.str t), some (.str kd), some (.str x), some (.int n)] ∧ JI H H1 O S M.un M.names ∧ ¬ (kd = "twice" ∨ (kd = "sub" ∧ (M.names.any fun p => decide (p.1 = x)) = true)), ?_, ?_⟩
    · refine ⟨_, rfl, rfl, _, rfl, ?_⟩
      rw [decS]
      by_cases h1 : kd = "twice"
      · rw [decide_eq_true h1]
        exact iteT (iteT (ret .twice _ (step_5 hk n3 (.inl h1)) J.sm))
      · rw [decide_eq_false h1]
        refine iteF ⟨_, rfl, rfl, _, rfl, ?_⟩
        rw [decS]
        by_cases h2 : kd = "sub"
        · rw [decide_eq_true h2]
          refine iteT ⟨_, rfl, _, rfl, S, _, rfl, DGet.k (k := kI x) J.s, _, rfl, ?_⟩
          rw [nm_some]
          cases hin : (M.names.any fun p => decide (p.1 = x)) with
          | true => exact iteT (ret .twice _ (step_5 hk n3 (.inr ⟨h2, hin⟩)) J.sm)
          | false =>
            refine iteF ⟨rfl, J, ?_⟩
            rintro (z | ⟨_, z⟩)
            · exact h1 z
            · cases z
        · rw [decide_eq_false h2]
          refine iteF (iteF ⟨rfl, J, ?_⟩)
          rintro (z | ⟨z, _⟩)
          · exact h1 z
          · exact h2 z
    clear J
    rintro σ Hc ⟨rfl, J, n5⟩
    obtain ⟨M', hst, eu, en⟩ := step_j hk n1 n2 n3 n4 n5
    -- else
    refine ⟨fun σ H1 => σ = [some (.ref D), some (.ref O), some (.ref S), some (.str t), some (.str kd), some (.str x), some (.int n)] ∧ JI H H1 O S (un1 kd M.un) M.names, ?_, ?_⟩
    · refine ⟨_, rfl, rfl, _, rfl, ?_⟩
      rw [decS]
      unfold un1
      by_cases h1 : kd = "else"
      · rw [decide_eq_true h1, if_pos h1]
        rcases last_str M.un with h2 | ⟨ks, k, hun, hat, hgl⟩
        · exact absurd (.inl ⟨h1, .inl h2⟩) n2
        obtain ⟨e1, e2⟩ := set_last hun "else"
        refine iteT ⟨_, rfl, _, rfl, O, _, -1, _, rfl, rfl, J.o, e1, ?_⟩
        rw [e2]
        exact ⟨rfl, J.setO _⟩
      · rw [decide_eq_false h1, if_neg h1]
        exact iteF ⟨rfl, J⟩
    clear J
    rintro σ Hc ⟨rfl, J⟩
    -- end
    refine ⟨fun σ H1 => σ = [some (.ref D), some (.ref O), some (.ref S), some (.str t), some (.str kd), some (.str x), some (.int n)] ∧ JI H H1 O S (un2 kd (un1 kd M.un)) M.names, ?_, ?_⟩
    · refine ⟨_, rfl, rfl, _, rfl, ?_⟩
      rw [decS]
      unfold un2
      by_cases h1 : kd = "end"
      · have e1 : un1 kd M.un = M.un := if_neg (by rw [h1]; decide +kernel)
        rw [decide_eq_true h1, if_pos h1]
        rw [e1] at J ⊢
        rcases last_str M.un with h2 | ⟨ks, k, hun, hat, hgl⟩
        · exact absurd (.inr ⟨h1, h2⟩) n2
        refine iteT ⟨_, rfl, .inl ⟨rfl, _, SqL.of J.o⟩, O, _, .str k, rfl, rfl, J.o, by rw [hun]; simp, ?_⟩
        rw [← List.map_dropLast]
        exact ⟨rfl, J.setO _⟩
      · rw [decide_eq_false h1, if_neg h1]
        exact iteF ⟨rfl, J⟩
    clear J
    rintro σ Hc ⟨rfl, J⟩
    have l2 : (un2 kd (un1 kd M.un)).length ≤ 7 := by
      have a1 : (un1 kd M.un).length ≤ 7 := by
        unfold un1
        split
        · rw [List.length_append, List.length_dropLast, List.length_singleton]; omega
        · omega
      unfold un2
      split
      · rw [List.length_dropLast]; omega
      · exact a1
    -- a body opened
    refine ⟨fun σ H1 => σ = [some (.ref D), some (.ref O), some (.ref S), some (.str t), some (.str kd), some (.str x), some (.int n)] ∧ JI H H1 O S (un3 kd (un2 kd (un1 kd M.un))) M.names, ?_, ?_⟩
    · refine ⟨_, rfl, le3, fun T hT => ⟨T, _, rfl, .inl (SqL.of upd_same), rfl, rfl, _, rfl, ?_⟩⟩
      have J1 := J.same (same_upd hT (.lst [.str "times", .str "if", .str "sub"]))
      generalize upd Hc T (.lst [.str "times", .str "if", .str "sub"]) = H2 at J1 ⊢
      rw [ifF, in3, ← Bool.decide_or, ← Bool.decide_or]
      unfold un3
      by_cases h1 : kd = "times" ∨ kd = "if" ∨ kd = "sub"
      · rw [decide_eq_true h1, if_pos h1]
        refine iteT ⟨_, rfl, .inl ⟨rfl, _, SqL.of J1.o⟩, _, rfl, O, _, .str kd, rfl, rfl, J1.o, line3 (c := 1000) (by rw [List.length_map]; omega) (by decide), ?_⟩
        have := J1.setO (un2 kd (un1 kd M.un) ++ [kd])
        rw [List.map_append] at this
        exact ⟨rfl, this⟩
      · rw [decide_eq_false h1, if_neg h1]
        exact iteF ⟨rfl, J1⟩
    clear J
    rintro σ Hc ⟨rfl, J⟩
    rw [← eu] at J
    have hrun' : runR M' ((rs.map Lr.rk).drop (i + 1)) = runR M0 (rs.map Lr.rk) := by
      rw [← hrun, ← List.map_drop]
      show _ = (match stepR M rk with | .ok M' => runR M' _ | .error e => .error e)
      rw [hst]
    have hcs' : M'.calls ++ callsOf ((rs.map Lr.rk).drop (i + 1)) = callsOf (rs.map Lr.rk) := by
      rw [← hcs, step_cs hst, ← List.map_drop, List.append_assoc]
      congr 1
      unfold callsOf
      rw [← List.filterMap_append]
      rfl
    have nln : M'.names.length ≤ i + 1 := by
      rw [en]
      unfold nm4
      split
      · rw [List.length_append, List.length_singleton]; omega
      · omega
    have fin : ∀ H1, JI H H1 O S M'.un (nm4 kd x n M.names) → ∃ (M : DM) (o3 o4 o5 o6 : Option V), [some (V.ref D), some (.ref O), some (.ref S), some (.str t), some (.str kd), some (.str x), some (.int n)] = [some (.ref D), some (.ref O), some (.ref S), o3, o4, o5, o6] ∧ JI H H1 O S M.un M.names ∧ M.un.length ≤ 6 ∧ Oks M.un ∧ M.names.length ≤ i + 1 ∧ runR M ((rs.map Lr.rk).drop (i + 1)) = runR M0 (rs.map Lr.rk) ∧ M.calls ++ callsOf ((rs.map Lr.rk).drop (i + 1)) = callsOf (rs.map Lr.rk) := fun H1 J1 =>
      ⟨M', _, _, _, _, rfl, by rw [en]; exact J1, step_un hst hu6, step_oks hst hoks, nln, hrun', hcs'⟩
    refine ⟨_, rfl, rfl, _, rfl, ?_⟩
    rw [decS]
    unfold nm4 at fin
    by_cases h1 : kd = "sub"
    · rw [if_pos h1] at fin
      rw [decide_eq_true h1]
      refine iteT ⟨_, rfl, _, rfl, _, rfl, S, _, rfl, .inl ⟨_, kI x, J.s, rfl, ?_, rfl⟩, ?_⟩
      · unfold nmK
        rw [List.length_map]
        exact line3 (c := 1000) (by omega) (by decide)
      rw [nm_put (fun z => n5 (.inr ⟨h1, z⟩))]
      exact fin _ (J.setS _)
    · rw [if_neg h1] at fin
      rw [decide_eq_false h1]
      exact iteF (fin _ J)
  · rintro σ Hc ⟨M, o3, o4, o5, o6, rfl, J, hu6, hoks, hnl, hrun, hcs⟩
    have hlen := ra.len
    rw [List.length_map, hlen] at hrun hcs
    rw [List.drop_of_length_le (by rw [List.length_map]; exact Nat.le_refl _)] at hrun hcs
    have hrun' : runR M0 (rs.map Lr.rk) = .ok M := hrun.symm
    have hcs' : callsOf (rs.map Lr.rk) = M.calls := by
      rw [← hcs]
      exact List.append_nil _
    have q' : ∀ H', Same H H' → Q (.int (codeO (if M.un ≠ [] then .error .opn else if badC M M.calls = true then .error .sub else .ok ()))) H' := fun H' s' => by
      have := q H' s'
      unfold codeJ at this
      rw [hrun'] at this
      exact this
    refine ⟨_, rfl, Nat.zero_le _, fun T hT => ?_⟩
    have J1 := J.same (same_upd hT (.lst []))
    refine ⟨_, _, Rp.lst (SqL.of J1.o) (Rps.strs _), Rp.lst (SqL.of upd_same) .nil, shaped_strs hoks, by decide +kernel, _, rfl, ?_⟩
    rw [ifT, eqv_un]
    generalize upd Hc T (.lst []) = H2 at J1 ⊢
    by_cases h1 : M.un = []
    rotate_left
    · rw [decide_eq_false h1]
      rw [if_pos h1] at q'
      exact iteT (q' _ J1.sm)
    rw [decide_eq_true h1]
    rw [if_neg (fun z => z h1)] at q'
    refine iteF ⟨_, rfl, D, rfl, ⟨_, SqL.of (J1.sm _ _ hD)⟩, fun L hL => ?_⟩
    refine ⟨Wd as.length (fun i σ acc H3 => ∃ (o : Option V) (bs : List Addr) (ss : List Lr), σ = [o, some (.ref S)] ∧ acc = bs.map V.ref ∧ RsAt H bs ss ∧ Same H2 H3 ∧ H3 L = some (.lst acc) ∧ bs.length ≤ i ∧ badC M (callsOf ((rs.map Lr.rk).take i)) = !decide (ss.length = 0)), wd_0 ⟨none, [], [], rfl, rfl, trivial, same_upd hL _, upd_same, Nat.le_refl _, rfl⟩, ?_⟩
    rintro i m σ acc H3 ⟨rfl, hi0, o, bs, ss, rfl, rfl, rb, s3, hL3, hbl, hbad⟩
    have sH := J1.sm.trans s3
    refine lc_ask (K := K) (a := D) (xs := as.map V.ref) (SqL.of (sH _ _ hD)) (by rw [List.length_map]; exact hi0) (fun y hy hlt => ?_) (fun hend => ?_)
    · rw [List.length_map] at hlt
      obtain ⟨a, r, rfl, ha, ok, hri, hdr⟩ := ra.get hy
      obtain ⟨t, kd, x, n, rk⟩ := r
      have hk : LrW kd x n rk := ok.kn
      have ha3 := sH _ _ ha
      have tk : callsOf ((rs.map Lr.rk).take (i + 1)) = callsOf ((rs.map Lr.rk).take i) ++ callsOf [rk] := by
        have e : (rs.map Lr.rk)[i]? = some rk := by rw [List.getElem?_map, hri]; rfl
        obtain ⟨hl1, e1⟩ := List.getElem?_eq_some_iff.mp e
        rw [List.take_succ_eq_append_getElem hl1, e1]
        unfold callsOf
        rw [List.filterMap_append]
      have bapp : ∀ ps qs, badC M (ps ++ qs) = (badC M ps || badC M qs) := fun ps qs => by
        unfold badC
        rw [List.any_append]
      refine ⟨_, rfl, a, _, 1, .str kd, rfl, rfl, SqL.of ha3, rfl, rfl, _, rfl, ?_⟩
      rw [decS]
      by_cases h2 : kd = "call"
      · rw [decide_eq_true h2]
        have hrk : rk = .call x n := by
          cases hk with
          | call => rfl
          | _ => exact absurd h2 (by decide +kernel)
        have h4 : badC M (callsOf [rk]) = !decide (nmOf M.names x = some n) := by
          rw [hrk]
          exact Bool.or_false _
        refine iteT ⟨_, rfl, S, rfl, .inl ⟨_, .inl (s3 _ _ J1.s)⟩, _, rfl, a, _, 2, .str x, rfl, rfl, SqL.of ha3, rfl, _, rfl, _, DGet.k (k := kI x) (s3 _ _ J1.s), _, rfl, a, _, 3, .int n, rfl, rfl, SqL.of ha3, rfl, ?_⟩
        rw [nm_val]
        have put : nmOf M.names x ≠ some n → H3 L = some (.lst (bs.map V.ref)) ∧ (bs.map V.ref).length < sizeLine ∧ ∃ m', m' < as.length - i ∧ Wd as.length (fun i σ acc H3 => ∃ (o : Option V) (bs : List Addr) (ss : List Lr), σ = [o, some (.ref S)] ∧ acc = bs.map V.ref ∧ RsAt H bs ss ∧ Same H2 H3 ∧ H3 L = some (.lst acc) ∧ bs.length ≤ i ∧ badC M (callsOf ((rs.map Lr.rk).take i)) = !decide (ss.length = 0)) (i + 1) m' [some (.ref a), some (.ref S)] (bs.map V.ref ++ [.ref a]) (upd H3 L (.lst (bs.map V.ref ++ [.ref a]))) := fun hne => by
          refine ⟨hL3, line3 (c := 1000) (by rw [List.length_map]; have := ra.len; omega) (by decide), wd_next hlt ⟨_, bs ++ [a], ss ++ [⟨t, kd, x, n, rk⟩], rfl, by rw [List.map_append]; rfl, rb.snoc ha ok, same_in s3 hL, upd_same, by rw [List.length_append, List.length_singleton]; omega, ?_⟩⟩
          rw [tk, bapp, h4, decide_eq_false hne, decide_eq_false (by simp)]
          exact Bool.or_true _
        cases hn : nmOf M.names x with
        | none =>
          refine ⟨rfl, _, rfl, ?_⟩
          rw [show (Option.map (fun n : Nat => V.int (n : Int)) none).getD (V.int (-1)) = V.int (-1) from rfl, decide_eq_false (show ¬ V.int (-1) = V.int (n : Int) by intro z; injection z with z; omega)]
          exact iteT ⟨_, rfl, put (by rw [hn]; simp)⟩
        | some m =>
          refine ⟨rfl, _, rfl, ?_⟩
          by_cases hm : m = n
          · rw [show (Option.map (fun n : Nat => V.int (n : Int)) (some m)).getD (V.int (-1)) = V.int (m : Int) from rfl, decide_eq_true (show V.int (m : Int) = V.int (n : Int) by rw [hm])]
            refine iteF (wd_next hlt ⟨_, bs, ss, rfl, rfl, rb, s3, hL3, by omega, ?_⟩)
            rw [tk, bapp, h4, hn, hm, decide_eq_true rfl, hbad]
            exact Bool.or_false _
          · rw [show (Option.map (fun n : Nat => V.int (n : Int)) (some m)).getD (V.int (-1)) = V.int (m : Int) from rfl, decide_eq_false (show ¬ V.int (m : Int) = V.int (n : Int) by intro z; injection z with z; omega)]
            exact iteT ⟨_, rfl, put (by rw [hn]; exact fun z => hm (Option.some.inj z))⟩
      · rw [decide_eq_false h2]
        have hz : callsOf [rk] = [] := by
          cases hk with
          | call => exact absurd rfl h2
          | _ => rfl
        refine iteF (iteF (wd_next hlt ⟨_, bs, ss, rfl, rfl, rb, s3, hL3, by omega, ?_⟩))
        rw [tk, bapp, hz, hbad]
        exact Bool.or_false _
    · rw [List.length_map] at hend
      have hb : badC M M.calls = !decide (ss.length = 0) := by
        rw [← hbad, hend, hlen, List.take_of_length_le (by rw [List.length_map]; exact Nat.le_refl _), hcs']
      refine ⟨Nat.zero_le _, fun T2 hT2 => ?_⟩
      have s4 := s3.trans (same_upd hT2 (.lst []))
      have rb4 := rb.same (J1.sm.trans s4)
      refine ⟨_, _, Rp.lst (SqL.of (same_upd hT2 _ _ _ hL3)) rb4.rps, Rp.lst (SqL.of upd_same) .nil, rb4.shaped, by decide +kernel, _, rfl, ?_⟩
      rw [ifT, eqv_nil, List.length_map]
      rw [hb] at q'
      by_cases h0 : ss.length = 0
      · rw [decide_eq_true h0] at q' ⊢
        refine iteF ⟨_, rfl, ?_⟩
        exact q' _ (J1.sm.trans s4)
      · rw [decide_eq_false h0] at q' ⊢
        exact iteT (q' _ (J1.sm.trans s4))
end
end Car

set_option maxHeartbeats 4000000
namespace L2
open PySem PySem.Spec PyProof.Rows
section
variable {X : Cx} {K : PySem.W.Frag} {o e : Expr} {es : List Expr} {to : TE} {t : TA} {name : Str} {apos cpos : Pos} {T id : String} {r : V → List V → Hp → VK → Prop}
theorem mt_joinWK (h : X.K = K) : MtM X "str.join" (rJoinW K) := by subst h; exact mt_joinW
theorem pe_bmK (h : X.K = K) (pa : PlainAttrs T) (slot : Slot T name id) (hty : typeOf (.builtin id) = pure (.type "method_descriptor")) (hm : MtR X id r) (ho : PE X o to) (ha : PA X (e :: es) t)
    (hbase : attributeBase o name X.env (eval o X.env) = eval o X.env := by rfl)
    (hfew : ((backTo cpos (starEach (e :: es) X.env)).all (fun x => !x.1) && (backToKw cpos (keywordEach [] X.env)).all (fun x => x.1.isSome)
      && decide ((e :: es).length + ([] : List Keyword).length + (if ([] : List Keyword).isEmpty then 0 else 1) < 30)) = true := by rfl)
    (hline : (apos.endLine == cpos.line) = true := by rfl) (hs : starEach (e :: es) X.env = (false, eval e X.env) :: starEach es X.env := by rfl) (hplain : (backTo cpos (starEach es X.env)).any (·.1) = false := by rfl) :
    PE X (.Call (.Attribute o name apos) (e :: es) [] cpos) (tBM K T r to t) := by
  subst h
  exact pe_bm pa slot hty hm ho ha hbase hfew hline hs hplain
end
end L2
namespace Car
open PySem L2
theorem bt_valerr : bootBuiltins "ValueError" = some (.type "ValueError") := by decide +kernel
noncomputable def Oth2 (K : PySem.W.Frag) (mg : Str → Option Value) (ec : Er → Addr) (x : Str) (k : Int) : Prop := ∃ A : Addr, mg x = some (.ref A) ∧ ∀ e, PySem.W.kitOne K (.ref (ec e)) (.ref A) = some (decide (code e = k))
structure RfT (K : PySem.W.Frag) (mg : Str → Option Value) (ec : Er → Addr) (CC : Addr) : Prop where
  cat : CatchC K mg "CarveError" CC
  sub : ∀ e, PySem.W.mroIn K (ec e) (.ref CC) = some true
  ek : ∀ e, ExcK K (ec e)
  val : ∀ e, PySem.W.kitOne K (.ref (ec e)) (.type "ValueError") = some true
  vg : mg "ValueError" = none
  o0 : Oth2 K mg ec "TooLong" 0
  o1 : Oth2 K mg ec "NoRow" 1
  o2 : Oth2 K mg ec "NoPlace" 2
  o3 : Oth2 K mg ec "TooDeep" 3
  o4 : Oth2 K mg ec "Twice" 4
  o5 : Oth2 K mg ec "Open" 5
  o6 : Oth2 K mg ec "NoSub" 6
  o7 : Oth2 K mg ec "NoForm" 7
  o8 : Oth2 K mg ec "NoBed" 8
  o9 : Oth2 K mg ec "NoMeasure" 9
  o10 : Oth2 K mg ec "NoCell" 10
  o11 : Oth2 K mg ec "NoCutter" 11
noncomputable def tl1 (e : Er) : List V := [V.bl (decide (code e = 0)), V.bl (decide (code e = 1)), V.bl (decide (code e = 2)), V.bl (decide (code e = 3))]
noncomputable def tl2 (e : Er) : List V := [V.bl (decide (code e = 4)), V.bl (decide (code e = 5)), V.bl (decide (code e = 6)), V.bl (decide (code e = 7))]
noncomputable def tl3 (e : Er) : List V := [V.bl (decide (code e = 8)), V.bl (decide (code e = 9)), V.bl (decide (code e = 10)), V.bl (decide (code e = 11))]
noncomputable def toldV : Except Er Unit → List V
  | .ok _ => []
  | .error e => tl1 e ++ tl2 e ++ tl3 e ++ [V.bl (!true)]
section
variable {P : Program} {w : World} {K : PySem.W.Frag} {mg : Str → Option Value} {base : Heap} {CC f : Addr} {fd' : FuncData} {ec : Er → Addr}
theorem rows_ok : ∀ {rs : List Lr}, (∀ r ∈ rs, r.ok) → RowsOk (rs.map Lr.t) (rs.map Lr.rk)
  | [], _ => .nil
  | r :: rs, h => .cons ⟨Nat.le_trans (h r List.mem_cons_self).len (by decide), fun c hc => Nat.lt_of_lt_of_le ((h r List.mem_cons_self).so c hc) (by decide)⟩ (h r List.mem_cons_self).row (rows_ok fun x hx => h x (List.mem_cons_of_mem _ hx))
theorem sum_60 : ∀ {rs : List Lr}, (∀ r ∈ rs, r.ok) → ((rs.map Lr.t).map (·.length)).sum + (rs.map Lr.t).length ≤ 61 * rs.length
  | [], _ => Nat.le_refl _
  | r :: rs, h => by
    have ih := sum_60 (rs := rs) fun a ha => h a (List.mem_cons_of_mem _ ha)
    have h1 := (h r List.mem_cons_self).len
    rw [List.map_cons, List.map_cons, List.sum_cons, List.length_cons, List.length_cons]
    omega
theorem join_rows {rs : List Lr} (hne : rs ≠ []) (h : ∀ r ∈ rs, r.ok) (hl : rs.length ≤ 1000) : (Txt.join "\n" (rs.map Lr.t)).length ≤ 1000000 ∧ Txt.split (Txt.join "\n" (rs.map Lr.t)) "\n" = rs.map Lr.t := by
  have e : ("\n" : Str) = ⟨#[10]⟩ := by decide +kernel
  rw [e]
  refine ⟨?_, split_join (by simpa using hne) fun z hz hm => ?_⟩
  · rw [← cl_len, cl_tj]
    have h1 := jl_len 10 ((rs.map Lr.t).map cl)
    have h2 := sum_60 h
    have h3 : ((rs.map Lr.t).map cl).map (·.length) = (rs.map Lr.t).map (·.length) := by
      rw [List.map_map]
      exact List.map_congr_left fun z _ => cl_len z
    rw [h3, List.length_map] at h1
    omega
  · obtain ⟨r, hr, rfl⟩ := List.mem_map.mp hz
    exact (h r hr).nl hm
noncomputable def spRefusal : Sp := fun vs H Q _ => ∃ (R : Addr) (rs : List Lr), vs = [.ref R] ∧ H R = some (.lst ((rs.map Lr.t).map V.str)) ∧ rs ≠ [] ∧ (∀ r ∈ rs, r.ok) ∧ rs.length ≤ 1000 ∧ ∀ l H', Same H H' → H' l = some (.lst (toldV (readR (rs.map Lr.rk)))) → Q (.ref l) H'
theorem scRefusal : FnScope ["rows", "told", "e"] ["rows"] (defScope sRefusal) := ⟨rfl, rfl, rfl, by decide +kernel, rfl, by decide +kernel, by decide +kernel⟩
theorem ok_refusal (T : LawT mg) (R : RfT K mg ec CC) (FR : Fn P w K mg base "read" 30 ["text"] (spRead ec)) (F : Fun K "_law_refusal" "_law_refusal" sRefusal f fd') : FnOk P w K mg base (CX1 P w) 31 f fd' ["rows"] spRefusal := by
  have nd := scRefusal.nd
  refine F.ok1 scRefusal (fun vs H Q E h => ?_) (fun cdv A outer s H vs Q E hr h => ?_)
  · obtain ⟨D, rs, rfl, _⟩ := h
    rfl
  obtain ⟨D, rs, rfl, hD, hne, hok, hlen, q⟩ := h
  obtain ⟨fe, de, oke, ge, ke, be⟩ := FR.ex
  obtain ⟨a0, g0, t0⟩ := R.o0
  obtain ⟨a1, g1, t1⟩ := R.o1
  obtain ⟨a2, g2, t2⟩ := R.o2
  obtain ⟨a3, g3, t3⟩ := R.o3
  obtain ⟨a4, g4, t4⟩ := R.o4
  obtain ⟨a5, g5, t5⟩ := R.o5
  obtain ⟨a6, g6, t6⟩ := R.o6
  obtain ⟨a7, g7, t7⟩ := R.o7
  obtain ⟨a8, g8, t8⟩ := R.o8
  obtain ⟨a9, g9, t9⟩ := R.o9
  obtain ⟨a10, g10, t10⟩ := R.o10
  obtain ⟨a11, g11, t11⟩ := R.o11
  refine ⟨_, (pss_cons (ps_set (i := 1) nd rfl (Or.inl rfl) (pe_lst pa_nil))
    (pss_cons (ps_tryAs (i := 2) rfl rfl rfl (px_call oke hr rfl ge ke be .nil (fun _ => pa_cons (pe_bmK (K := K) rfl PySem.F.plainAttrs_str PySem.F.slot_str_join PySem.F.type_str_join (mt_joinWK (K := K) rfl) pe_str (pa_cons (pv 0) pa_nil)) pa_nil)) R.cat rfl nd rfl rfl (fun _ => (pss_cons (ps_set (i := 1) nd rfl (Or.inl rfl) (pe_lst (pa_cons (pe_callB (call_isiEK (K := K) rfl) rfl T.isin bt_isin (pa_cons (pv 2) (pa_cons (pe_glob (v := .ref a0) rfl g0 rfl) pa_nil))) (pa_cons (pe_callB (call_isiEK (K := K) rfl) rfl T.isin bt_isin (pa_cons (pv 2) (pa_cons (pe_glob (v := .ref a1) rfl g1 rfl) pa_nil))) (pa_cons (pe_callB (call_isiEK (K := K) rfl) rfl T.isin bt_isin (pa_cons (pv 2) (pa_cons (pe_glob (v := .ref a2) rfl g2 rfl) pa_nil))) (pa_cons (pe_callB (call_isiEK (K := K) rfl) rfl T.isin bt_isin (pa_cons (pv 2) (pa_cons (pe_glob (v := .ref a3) rfl g3 rfl) pa_nil))) pa_nil))))))
    (pss_cons (ps_set (i := 1) nd rfl (Or.inl rfl) (pe_op op_cat (pv 1) (pe_lst (pa_cons (pe_callB (call_isiEK (K := K) rfl) rfl T.isin bt_isin (pa_cons (pv 2) (pa_cons (pe_glob (v := .ref a4) rfl g4 rfl) pa_nil))) (pa_cons (pe_callB (call_isiEK (K := K) rfl) rfl T.isin bt_isin (pa_cons (pv 2) (pa_cons (pe_glob (v := .ref a5) rfl g5 rfl) pa_nil))) (pa_cons (pe_callB (call_isiEK (K := K) rfl) rfl T.isin bt_isin (pa_cons (pv 2) (pa_cons (pe_glob (v := .ref a6) rfl g6 rfl) pa_nil))) (pa_cons (pe_callB (call_isiEK (K := K) rfl) rfl T.isin bt_isin (pa_cons (pv 2) (pa_cons (pe_glob (v := .ref a7) rfl g7 rfl) pa_nil))) pa_nil)))))))
    (pss_cons (ps_set (i := 1) nd rfl (Or.inl rfl) (pe_op op_cat (pv 1) (pe_lst (pa_cons (pe_callB (call_isiEK (K := K) rfl) rfl T.isin bt_isin (pa_cons (pv 2) (pa_cons (pe_glob (v := .ref a8) rfl g8 rfl) pa_nil))) (pa_cons (pe_callB (call_isiEK (K := K) rfl) rfl T.isin bt_isin (pa_cons (pv 2) (pa_cons (pe_glob (v := .ref a9) rfl g9 rfl) pa_nil))) (pa_cons (pe_callB (call_isiEK (K := K) rfl) rfl T.isin bt_isin (pa_cons (pv 2) (pa_cons (pe_glob (v := .ref a10) rfl g10 rfl) pa_nil))) (pa_cons (pe_callB (call_isiEK (K := K) rfl) rfl T.isin bt_isin (pa_cons (pv 2) (pa_cons (pe_glob (v := .ref a11) rfl g11 rfl) pa_nil))) pa_nil)))))))
    (pss_one (ps_set (i := 1) nd rfl (Or.inl rfl) (pe_op op_cat (pv 1) (pe_lst (pa_cons (pe_not (pe_callB (call_isiEK (K := K) rfl) rfl T.isin bt_isin (pa_cons (pv 2) (pa_cons (pe_bltn (v := .ty "ValueError") rfl R.vg bt_valerr rfl) pa_nil)))) pa_nil))))))))))
    (pss_one (ps_ret (pv 1))))), ?_⟩
  refine ⟨Nat.zero_le _, fun p hp => ?_⟩
  have s1 := same_upd hp (.lst [])
  have hp1 : upd H p (.lst []) p = some (.lst []) := upd_same
  generalize upd H p (.lst []) = H1 at s1 hp1 ⊢
  obtain ⟨z1, z2⟩ := join_rows hne hok hlen
  refine ⟨rfl, _, rfl, "\n", D, rs.map Lr.t, rfl, rfl, SqL.of (s1 _ _ hD), (by have := sum_60 hok; omega), (by decide +kernel), ?_⟩
  refine ⟨Txt.join "\n" (rs.map Lr.t), rs.map Lr.rk, rfl, z1, by rw [z2]; exact rows_ok hok, by rw [List.length_map]; exact hlen, ?_⟩
  cases hrd : readR (rs.map Lr.rk) with
  | ok u =>
    rw [hrd] at q
    intro v H2 s2
    exact ⟨_, rfl, q p _ (s1.trans s2) (s2 _ _ hp1)⟩
  | error er =>
    rw [hrd] at q
    intro H2 s2
    refine ⟨⟨ec er, rfl, R.sub er⟩, fun e he => ?_⟩
    have he3 : upd H2 e (ExcC e (.ref (ec er)) none) e = some (ExcC e (.ref (ec er)) none) := upd_same
    have s3 : Same H (upd H2 e (ExcC e (.ref (ec er)) none)) := s1.trans (s2.trans (same_upd he _))
    generalize upd H2 e (ExcC e (.ref (ec er)) none) = H3 at he3 s3 ⊢
    refine ⟨_, rfl, e, ec er, _, _, _, rfl, he3, rfl, R.ek er, t0 er, _, rfl, e, ec er, _, _, _, rfl, he3, rfl, R.ek er, t1 er, _, rfl, e, ec er, _, _, _, rfl, he3, rfl, R.ek er, t2 er, _, rfl, e, ec er, _, _, _, rfl, he3, rfl, R.ek er, t3 er, le4, fun l1 h1 => ?_⟩
    have u4 := same_upd h1 (.lst [V.bl (decide (code er = 0)), V.bl (decide (code er = 1)), V.bl (decide (code er = 2)), V.bl (decide (code er = 3))])
    have hl1 : upd H3 l1 (.lst [V.bl (decide (code er = 0)), V.bl (decide (code er = 1)), V.bl (decide (code er = 2)), V.bl (decide (code er = 3))]) l1 = some (.lst (tl1 er)) := upd_same
    have he4 := u4 _ _ he3
    have s4 := s3.trans u4
    generalize upd H3 l1 (.lst [V.bl (decide (code er = 0)), V.bl (decide (code er = 1)), V.bl (decide (code er = 2)), V.bl (decide (code er = 3))]) = H4 at he4 hl1 s4 ⊢
    refine ⟨_, rfl, _, rfl, e, ec er, _, _, _, rfl, he4, rfl, R.ek er, t4 er, _, rfl, e, ec er, _, _, _, rfl, he4, rfl, R.ek er, t5 er, _, rfl, e, ec er, _, _, _, rfl, he4, rfl, R.ek er, t6 er, _, rfl, e, ec er, _, _, _, rfl, he4, rfl, R.ek er, t7 er, le4, fun l2 h2 => ?_⟩
    have u5 := same_upd h2 (.lst [V.bl (decide (code er = 4)), V.bl (decide (code er = 5)), V.bl (decide (code er = 6)), V.bl (decide (code er = 7))])
    have hl2 : upd H4 l2 (.lst [V.bl (decide (code er = 4)), V.bl (decide (code er = 5)), V.bl (decide (code er = 6)), V.bl (decide (code er = 7))]) l2 = some (.lst (tl2 er)) := upd_same
    have hl1' := u5 _ _ hl1
    have he5 := u5 _ _ he4
    have s5 := s4.trans u5
    generalize upd H4 l2 (.lst [V.bl (decide (code er = 4)), V.bl (decide (code er = 5)), V.bl (decide (code er = 6)), V.bl (decide (code er = 7))]) = H5 at he5 hl1' hl2 s5 ⊢
    refine ⟨l1, l2, _, _, rfl, rfl, hl1', hl2, (by show 8 ≤ sizeLine; decide), fun l3 h3 => ?_⟩
    have u6 := same_upd h3 (.lst (tl1 er ++ tl2 er))
    have hl3 : upd H5 l3 (.lst (tl1 er ++ tl2 er)) l3 = some (.lst (tl1 er ++ tl2 er)) := upd_same
    have he6 := u6 _ _ he5
    have s6 := s5.trans u6
    generalize upd H5 l3 (.lst (tl1 er ++ tl2 er)) = H6 at he6 hl3 s6 ⊢
    refine ⟨_, rfl, _, rfl, e, ec er, _, _, _, rfl, he6, rfl, R.ek er, t8 er, _, rfl, e, ec er, _, _, _, rfl, he6, rfl, R.ek er, t9 er, _, rfl, e, ec er, _, _, _, rfl, he6, rfl, R.ek er, t10 er, _, rfl, e, ec er, _, _, _, rfl, he6, rfl, R.ek er, t11 er, le4, fun l4 h4 => ?_⟩
    have u7 := same_upd h4 (.lst [V.bl (decide (code er = 8)), V.bl (decide (code er = 9)), V.bl (decide (code er = 10)), V.bl (decide (code er = 11))])
    have hl4 : upd H6 l4 (.lst [V.bl (decide (code er = 8)), V.bl (decide (code er = 9)), V.bl (decide (code er = 10)), V.bl (decide (code er = 11))]) l4 = some (.lst (tl3 er)) := upd_same
    have hl3' := u7 _ _ hl3
    have he7 := u7 _ _ he6
    have s7 := s6.trans u7
    generalize upd H6 l4 (.lst [V.bl (decide (code er = 8)), V.bl (decide (code er = 9)), V.bl (decide (code er = 10)), V.bl (decide (code er = 11))]) = H7 at he7 hl3' hl4 s7 ⊢
    refine ⟨l3, l4, _, _, rfl, rfl, hl3', hl4, (by show 12 ≤ sizeLine; decide), fun l5 h5 => ?_⟩
    have u8 := same_upd h5 (.lst (tl1 er ++ tl2 er ++ tl3 er))
    have hl5 : upd H7 l5 (.lst (tl1 er ++ tl2 er ++ tl3 er)) l5 = some (.lst (tl1 er ++ tl2 er ++ tl3 er)) := upd_same
    have he8 := u8 _ _ he7
    have s8 := s7.trans u8
    generalize upd H7 l5 (.lst (tl1 er ++ tl2 er ++ tl3 er)) = H8 at he8 hl5 s8 ⊢
    refine ⟨_, rfl, _, rfl, e, ec er, _, _, _, rfl, he8, rfl, R.ek er, R.val er, _, rfl, le1, fun l6 h6 => ?_⟩
    have u9 := same_upd h6 (.lst [V.bl (!true)])
    refine ⟨l5, l6, _, _, rfl, rfl, u9 _ _ hl5, upd_same, (by show 13 ≤ sizeLine; decide), fun l7 h7 => ?_⟩
    exact ⟨_, rfl, q l7 _ (s8.trans (u9.trans (same_upd h7 _))) upd_same⟩
end
end Car

set_option maxHeartbeats 2000000
namespace Car
open PySem L2
noncomputable def bt0 : List Str := ["", " ", "hold", "hold 1 2", "hold  1", " hold 1", "hold 1 ", "Hold 1", "holds 1"]
noncomputable def bt1 : List Str := ["hold x", "hold -1", "hold 01", "hold 1+", "hold (1", "hold 1)", "hold 1 + 2"]
noncomputable def bt2 : List Str := ["hold 1000000", "hold 1.5", "hold", "fast 1", "fast w 1", "fast x", "fast x by"]
noncomputable def bt3 : List Str := ["fast x by by", "fast x 1 by", "fast x by 1 2", "fast X 1", "slow", "slow xy 1"]
noncomputable def bt4 : List Str := ["slow z by z", "slow x  1", "quick x 1", "let a", "let 1 a", "let x 1", "let a 1 2"]
noncomputable def bt5 : List Str := ["let a = 1", "let by 1", "let toolongna 1", "times a", "times 3", "times a 3 4"]
noncomputable def bt6 : List Str := ["times z 3", "call", "call 1", "call f a b n q a", "call f  a", "call hold", "call f -1"]
noncomputable def bt7 : List Str := ["if a", "if a < b c", "if a > b", "if a <", "if a <= b", "if a == b", "if < a b"]
noncomputable def bt8 : List Str := ["if a<b", "if x < 1", "else if", "else 1", "Else", "end 1", "ends", "END", "sub"]
noncomputable def bt9 : List Str := ["sub f a b n q a", "sub 1", "sub f x", "sub f 1", "sub end", "sub f a-b", "subs f"]
noncomputable def badTs : List Str := bt0 ++ bt1 ++ bt2 ++ bt3 ++ bt4 ++ bt5 ++ bt6 ++ bt7 ++ bt8 ++ bt9
noncomputable def badB (t : Str) : Bool := decide (t.length ≤ 60) && (decide (10 ∉ cl t) && ((cl t).all (fun c => decide (c < 128)) && (decide ((Txt.split t " ").length ≤ 1000) && ((Txt.split t " ").all (fun a => decide (a.length ≤ 1000) && (cl a).all fun c => decide (c < 16 ^ 8)) && ((rowF (Txt.split t " ")).isNone)))))
theorem bad_all : badTs.all badB = true := by decide +kernel
theorem bad_lr {t : Str} (h : t ∈ badTs) : Lr.ok ⟨t, "bad", "", 0, .bad⟩ := by
  have b := List.all_eq_true.mp bad_all t h
  unfold badB at b
  simp only [Bool.and_eq_true] at b
  obtain ⟨b1, b2, b3, b4, b5, b6⟩ := b
  refine ⟨of_decide_eq_true b1, of_decide_eq_true b2, fun c hc => of_decide_eq_true (List.all_eq_true.mp b3 c hc), (show ∀ c ∈ cl ("" : Str), c < 128 by decide +kernel), ⟨fun a ha => wo_lit (List.all_eq_true.mp b5 a ha), of_decide_eq_true b4, split_ne _ _, .inr ⟨rfl, Option.isNone_iff_eq_none.mp b6⟩, trivial⟩, .bad⟩
section
variable {P : Program} {w : World} {K : PySem.W.Frag} {mg : Str → Option Value} {base : Heap} {f : Addr} {fd' : FuncData}
noncomputable def spBad : Sp := fun vs H Q _ => ∃ cell : Int, vs = [.int cell] ∧ ∀ t ∈ badTs, ∀ H', Same H H' → Q (.str t) H'
theorem scBad : FnScope ["cell", "some"] ["cell"] (defScope sBad) := ⟨rfl, rfl, rfl, by decide +kernel, rfl, by decide +kernel, by decide +kernel⟩
theorem ok_bad (T : LawT mg) (FS : Fn P w K mg base "_law_stir" 1 ["cell", "k"] spStir) (F : Fun K "_law_bad" "_law_bad" sBad f fd') : FnOk P w K mg base (CX1 P w) 2 f fd' ["cell"] spBad := by
  have nd := scBad.nd
  refine F.ok1 scBad (fun vs H Q E h => ?_) (fun cdv A outer s H vs Q E hr h => ?_)
  · obtain ⟨cell, rfl, _⟩ := h
    rfl
  obtain ⟨cell, rfl, q⟩ := h
  refine ⟨_, (pss_cons (ps_set (i := 1) nd rfl (Or.inl rfl) (pe_lst (pa_cons pe_str (pa_cons pe_str (pa_cons pe_str (pa_cons pe_str (pa_cons pe_str (pa_cons pe_str (pa_cons pe_str (pa_cons pe_str (pa_cons pe_str pa_nil)))))))))))
    (pss_cons (ps_set (i := 1) nd rfl (Or.inl rfl) (pe_op op_cat (pv 1) (pe_lst (pa_cons pe_str (pa_cons pe_str (pa_cons pe_str (pa_cons pe_str (pa_cons pe_str (pa_cons pe_str (pa_cons pe_str pa_nil))))))))))
    (pss_cons (ps_set (i := 1) nd rfl (Or.inl rfl) (pe_op op_cat (pv 1) (pe_lst (pa_cons pe_str (pa_cons pe_str (pa_cons pe_str (pa_cons pe_str (pa_cons pe_str (pa_cons pe_str (pa_cons pe_str pa_nil))))))))))
    (pss_cons (ps_set (i := 1) nd rfl (Or.inl rfl) (pe_op op_cat (pv 1) (pe_lst (pa_cons pe_str (pa_cons pe_str (pa_cons pe_str (pa_cons pe_str (pa_cons pe_str (pa_cons pe_str pa_nil)))))))))
    (pss_cons (ps_set (i := 1) nd rfl (Or.inl rfl) (pe_op op_cat (pv 1) (pe_lst (pa_cons pe_str (pa_cons pe_str (pa_cons pe_str (pa_cons pe_str (pa_cons pe_str (pa_cons pe_str (pa_cons pe_str pa_nil))))))))))
    (pss_cons (ps_set (i := 1) nd rfl (Or.inl rfl) (pe_op op_cat (pv 1) (pe_lst (pa_cons pe_str (pa_cons pe_str (pa_cons pe_str (pa_cons pe_str (pa_cons pe_str (pa_cons pe_str pa_nil)))))))))
    (pss_cons (ps_set (i := 1) nd rfl (Or.inl rfl) (pe_op op_cat (pv 1) (pe_lst (pa_cons pe_str (pa_cons pe_str (pa_cons pe_str (pa_cons pe_str (pa_cons pe_str (pa_cons pe_str (pa_cons pe_str pa_nil))))))))))
    (pss_cons (ps_set (i := 1) nd rfl (Or.inl rfl) (pe_op op_cat (pv 1) (pe_lst (pa_cons pe_str (pa_cons pe_str (pa_cons pe_str (pa_cons pe_str (pa_cons pe_str (pa_cons pe_str (pa_cons pe_str pa_nil))))))))))
    (pss_cons (ps_set (i := 1) nd rfl (Or.inl rfl) (pe_op op_cat (pv 1) (pe_lst (pa_cons pe_str (pa_cons pe_str (pa_cons pe_str (pa_cons pe_str (pa_cons pe_str (pa_cons pe_str (pa_cons pe_str (pa_cons pe_str (pa_cons pe_str pa_nil))))))))))))
    (pss_cons (ps_set (i := 1) nd rfl (Or.inl rfl) (pe_op op_cat (pv 1) (pe_lst (pa_cons pe_str (pa_cons pe_str (pa_cons pe_str (pa_cons pe_str (pa_cons pe_str (pa_cons pe_str (pa_cons pe_str pa_nil))))))))))
    (pss_one (ps_ret (pe_ix (ix_listK (K := K) rfl) (pv 1) (pe_op op_mod (pf_call FS hr rfl (pass1 (E := E)) (pa_cons (pv 0) (pa_cons pe_int pa_nil))) (pe_callB call_len_seq rfl T.len PySem.boot_len (pa_cons (pv 1) pa_nil))) (fun _ _ => rfl)))))))))))))), ?_⟩
  have bd : ∀ n : Nat, n ≤ 200 → n ≤ sizeLine := fun n h => Nat.le_trans h (by decide)
  refine ⟨bd 9 (by decide), fun a0 ha0 => ?_⟩
  have s0 := same_upd ha0 (.lst (bt0.map V.str))
  have h0 : upd H a0 (.lst (bt0.map V.str)) a0 = some (.lst (bt0.map V.str)) := upd_same
  change tSeq _ _ _ _ (upd H a0 (.lst (bt0.map V.str)))
  generalize upd H a0 (.lst (bt0.map V.str)) = G0 at s0 h0 ⊢
  refine ⟨_, rfl, bd 7 (by decide), fun b1 hb1 => ?_⟩
  refine ⟨a0, b1, _, _, rfl, rfl, same_upd hb1 _ _ _ h0, (show upd G0 b1 (.lst (bt1.map V.str)) b1 = some (.lst (bt1.map V.str)) from upd_same), bd 16 (by decide), fun a1 ha1 => ?_⟩
  have s1 : Same H (upd (upd G0 b1 (.lst (bt1.map V.str))) a1 (.lst ((bt0 ++ bt1 : List Str).map V.str))) := s0.trans ((same_upd hb1 (.lst (bt1.map V.str))).trans (same_upd ha1 (.lst (((bt0 ++ bt1 : List Str)).map V.str))))
  have h1 : upd (upd G0 b1 (.lst (bt1.map V.str))) a1 (.lst ((bt0 ++ bt1 : List Str).map V.str)) a1 = some (.lst ((bt0 ++ bt1 : List Str).map V.str)) := upd_same
  change tSeq _ _ _ _ (upd (upd G0 b1 (.lst (bt1.map V.str))) a1 (.lst ((bt0 ++ bt1 : List Str).map V.str)))
  generalize upd (upd G0 b1 (.lst (bt1.map V.str))) a1 (.lst ((bt0 ++ bt1 : List Str).map V.str)) = G1 at s1 h1 ⊢
  refine ⟨_, rfl, bd 7 (by decide), fun b2 hb2 => ?_⟩
  refine ⟨a1, b2, _, _, rfl, rfl, same_upd hb2 _ _ _ h1, (show upd G1 b2 (.lst (bt2.map V.str)) b2 = some (.lst (bt2.map V.str)) from upd_same), bd 23 (by decide), fun a2 ha2 => ?_⟩
  have s2 : Same H (upd (upd G1 b2 (.lst (bt2.map V.str))) a2 (.lst ((bt0 ++ bt1 ++ bt2 : List Str).map V.str))) := s1.trans ((same_upd hb2 (.lst (bt2.map V.str))).trans (same_upd ha2 (.lst (((bt0 ++ bt1 ++ bt2 : List Str)).map V.str))))
  have h2 : upd (upd G1 b2 (.lst (bt2.map V.str))) a2 (.lst ((bt0 ++ bt1 ++ bt2 : List Str).map V.str)) a2 = some (.lst ((bt0 ++ bt1 ++ bt2 : List Str).map V.str)) := upd_same
  change tSeq _ _ _ _ (upd (upd G1 b2 (.lst (bt2.map V.str))) a2 (.lst ((bt0 ++ bt1 ++ bt2 : List Str).map V.str)))
  generalize upd (upd G1 b2 (.lst (bt2.map V.str))) a2 (.lst ((bt0 ++ bt1 ++ bt2 : List Str).map V.str)) = G2 at s2 h2 ⊢
  refine ⟨_, rfl, bd 6 (by decide), fun b3 hb3 => ?_⟩
  refine ⟨a2, b3, _, _, rfl, rfl, same_upd hb3 _ _ _ h2, (show upd G2 b3 (.lst (bt3.map V.str)) b3 = some (.lst (bt3.map V.str)) from upd_same), bd 29 (by decide), fun a3 ha3 => ?_⟩
  have s3 : Same H (upd (upd G2 b3 (.lst (bt3.map V.str))) a3 (.lst ((bt0 ++ bt1 ++ bt2 ++ bt3 : List Str).map V.str))) := s2.trans ((same_upd hb3 (.lst (bt3.map V.str))).trans (same_upd ha3 (.lst (((bt0 ++ bt1 ++ bt2 ++ bt3 : List Str)).map V.str))))
  have h3 : upd (upd G2 b3 (.lst (bt3.map V.str))) a3 (.lst ((bt0 ++ bt1 ++ bt2 ++ bt3 : List Str).map V.str)) a3 = some (.lst ((bt0 ++ bt1 ++ bt2 ++ bt3 : List Str).map V.str)) := upd_same
  change tSeq _ _ _ _ (upd (upd G2 b3 (.lst (bt3.map V.str))) a3 (.lst ((bt0 ++ bt1 ++ bt2 ++ bt3 : List Str).map V.str)))
  generalize upd (upd G2 b3 (.lst (bt3.map V.str))) a3 (.lst ((bt0 ++ bt1 ++ bt2 ++ bt3 : List Str).map V.str)) = G3 at s3 h3 ⊢
  refine ⟨_, rfl, bd 7 (by decide), fun b4 hb4 => ?_⟩
  refine ⟨a3, b4, _, _, rfl, rfl, same_upd hb4 _ _ _ h3, (show upd G3 b4 (.lst (bt4.map V.str)) b4 = some (.lst (bt4.map V.str)) from upd_same), bd 36 (by decide), fun a4 ha4 => ?_⟩
  have s4 : Same H (upd (upd G3 b4 (.lst (bt4.map V.str))) a4 (.lst ((bt0 ++ bt1 ++ bt2 ++ bt3 ++ bt4 : List Str).map V.str))) := s3.trans ((same_upd hb4 (.lst (bt4.map V.str))).trans (same_upd ha4 (.lst (((bt0 ++ bt1 ++ bt2 ++ bt3 ++ bt4 : List Str)).map V.str))))
  have h4 : upd (upd G3 b4 (.lst (bt4.map V.str))) a4 (.lst ((bt0 ++ bt1 ++ bt2 ++ bt3 ++ bt4 : List Str).map V.str)) a4 = some (.lst ((bt0 ++ bt1 ++ bt2 ++ bt3 ++ bt4 : List Str).map V.str)) := upd_same
  change tSeq _ _ _ _ (upd (upd G3 b4 (.lst (bt4.map V.str))) a4 (.lst ((bt0 ++ bt1 ++ bt2 ++ bt3 ++ bt4 : List Str).map V.str)))
  generalize upd (upd G3 b4 (.lst (bt4.map V.str))) a4 (.lst ((bt0 ++ bt1 ++ bt2 ++ bt3 ++ bt4 : List Str).map V.str)) = G4 at s4 h4 ⊢
  refine ⟨_, rfl, bd 6 (by decide), fun b5 hb5 => ?_⟩
  refine ⟨a4, b5, _, _, rfl, rfl, same_upd hb5 _ _ _ h4, (show upd G4 b5 (.lst (bt5.map V.str)) b5 = some (.lst (bt5.map V.str)) from upd_same), bd 42 (by decide), fun a5 ha5 => ?_⟩
  have s5 : Same H (upd (upd G4 b5 (.lst (bt5.map V.str))) a5 (.lst ((bt0 ++ bt1 ++ bt2 ++ bt3 ++ bt4 ++ bt5 : List Str).map V.str))) := s4.trans ((same_upd hb5 (.lst (bt5.map V.str))).trans (same_upd ha5 (.lst (((bt0 ++ bt1 ++ bt2 ++ bt3 ++ bt4 ++ bt5 : List Str)).map V.str))))
  have h5 : upd (upd G4 b5 (.lst (bt5.map V.str))) a5 (.lst ((bt0 ++ bt1 ++ bt2 ++ bt3 ++ bt4 ++ bt5 : List Str).map V.str)) a5 = some (.lst ((bt0 ++ bt1 ++ bt2 ++ bt3 ++ bt4 ++ bt5 : List Str).map V.str)) := upd_same
  change tSeq _ _ _ _ (upd (upd G4 b5 (.lst (bt5.map V.str))) a5 (.lst ((bt0 ++ bt1 ++ bt2 ++ bt3 ++ bt4 ++ bt5 : List Str).map V.str)))
  generalize upd (upd G4 b5 (.lst (bt5.map V.str))) a5 (.lst ((bt0 ++ bt1 ++ bt2 ++ bt3 ++ bt4 ++ bt5 : List Str).map V.str)) = G5 at s5 h5 ⊢
  refine ⟨_, rfl, bd 7 (by decide), fun b6 hb6 => ?_⟩
  refine ⟨a5, b6, _, _, rfl, rfl, same_upd hb6 _ _ _ h5, (show upd G5 b6 (.lst (bt6.map V.str)) b6 = some (.lst (bt6.map V.str)) from upd_same), bd 49 (by decide), fun a6 ha6 => ?_⟩
  have s6 : Same H (upd (upd G5 b6 (.lst (bt6.map V.str))) a6 (.lst ((bt0 ++ bt1 ++ bt2 ++ bt3 ++ bt4 ++ bt5 ++ bt6 : List Str).map V.str))) := s5.trans ((same_upd hb6 (.lst (bt6.map V.str))).trans (same_upd ha6 (.lst (((bt0 ++ bt1 ++ bt2 ++ bt3 ++ bt4 ++ bt5 ++ bt6 : List Str)).map V.str))))
  have h6 : upd (upd G5 b6 (.lst (bt6.map V.str))) a6 (.lst ((bt0 ++ bt1 ++ bt2 ++ bt3 ++ bt4 ++ bt5 ++ bt6 : List Str).map V.str)) a6 = some (.lst ((bt0 ++ bt1 ++ bt2 ++ bt3 ++ bt4 ++ bt5 ++ bt6 : List Str).map V.str)) := upd_same
  change tSeq _ _ _ _ (upd (upd G5 b6 (.lst (bt6.map V.str))) a6 (.lst ((bt0 ++ bt1 ++ bt2 ++ bt3 ++ bt4 ++ bt5 ++ bt6 : List Str).map V.str)))
  generalize upd (upd G5 b6 (.lst (bt6.map V.str))) a6 (.lst ((bt0 ++ bt1 ++ bt2 ++ bt3 ++ bt4 ++ bt5 ++ bt6 : List Str).map V.str)) = G6 at s6 h6 ⊢
  refine ⟨_, rfl, bd 7 (by decide), fun b7 hb7 => ?_⟩
  refine ⟨a6, b7, _, _, rfl, rfl, same_upd hb7 _ _ _ h6, (show upd G6 b7 (.lst (bt7.map V.str)) b7 = some (.lst (bt7.map V.str)) from upd_same), bd 56 (by decide), fun a7 ha7 => ?_⟩
  have s7 : Same H (upd (upd G6 b7 (.lst (bt7.map V.str))) a7 (.lst ((bt0 ++ bt1 ++ bt2 ++ bt3 ++ bt4 ++ bt5 ++ bt6 ++ bt7 : List Str).map V.str))) := s6.trans ((same_upd hb7 (.lst (bt7.map V.str))).trans (same_upd ha7 (.lst (((bt0 ++ bt1 ++ bt2 ++ bt3 ++ bt4 ++ bt5 ++ bt6 ++ bt7 : List Str)).map V.str))))
  have h7 : upd (upd G6 b7 (.lst (bt7.map V.str))) a7 (.lst ((bt0 ++ bt1 ++ bt2 ++ bt3 ++ bt4 ++ bt5 ++ bt6 ++ bt7 : List Str).map V.str)) a7 = some (.lst ((bt0 ++ bt1 ++ bt2 ++ bt3 ++ bt4 ++ bt5 ++ bt6 ++ bt7 : List Str).map V.str)) := upd_same
  change tSeq _ _ _ _ (upd (upd G6 b7 (.lst (bt7.map V.str))) a7 (.lst ((bt0 ++ bt1 ++ bt2 ++ bt3 ++ bt4 ++ bt5 ++ bt6 ++ bt7 : List Str).map V.str)))
  generalize upd (upd G6 b7 (.lst (bt7.map V.str))) a7 (.lst ((bt0 ++ bt1 ++ bt2 ++ bt3 ++ bt4 ++ bt5 ++ bt6 ++ bt7 : List Str).map V.str)) = G7 at s7 h7 ⊢
  refine ⟨_, rfl, bd 9 (by decide), fun b8 hb8 => ?_⟩
  refine ⟨a7, b8, _, _, rfl, rfl, same_upd hb8 _ _ _ h7, (show upd G7 b8 (.lst (bt8.map V.str)) b8 = some (.lst (bt8.map V.str)) from upd_same), bd 65 (by decide), fun a8 ha8 => ?_⟩
  have s8 : Same H (upd (upd G7 b8 (.lst (bt8.map V.str))) a8 (.lst ((bt0 ++ bt1 ++ bt2 ++ bt3 ++ bt4 ++ bt5 ++ bt6 ++ bt7 ++ bt8 : List Str).map V.str))) := s7.trans ((same_upd hb8 (.lst (bt8.map V.str))).trans (same_upd ha8 (.lst (((bt0 ++ bt1 ++ bt2 ++ bt3 ++ bt4 ++ bt5 ++ bt6 ++ bt7 ++ bt8 : List Str)).map V.str))))
  have h8 : upd (upd G7 b8 (.lst (bt8.map V.str))) a8 (.lst ((bt0 ++ bt1 ++ bt2 ++ bt3 ++ bt4 ++ bt5 ++ bt6 ++ bt7 ++ bt8 : List Str).map V.str)) a8 = some (.lst ((bt0 ++ bt1 ++ bt2 ++ bt3 ++ bt4 ++ bt5 ++ bt6 ++ bt7 ++ bt8 : List Str).map V.str)) := upd_same
  change tSeq _ _ _ _ (upd (upd G7 b8 (.lst (bt8.map V.str))) a8 (.lst ((bt0 ++ bt1 ++ bt2 ++ bt3 ++ bt4 ++ bt5 ++ bt6 ++ bt7 ++ bt8 : List Str).map V.str)))
  generalize upd (upd G7 b8 (.lst (bt8.map V.str))) a8 (.lst ((bt0 ++ bt1 ++ bt2 ++ bt3 ++ bt4 ++ bt5 ++ bt6 ++ bt7 ++ bt8 : List Str).map V.str)) = G8 at s8 h8 ⊢
  refine ⟨_, rfl, bd 7 (by decide), fun b9 hb9 => ?_⟩
  refine ⟨a8, b9, _, _, rfl, rfl, same_upd hb9 _ _ _ h8, (show upd G8 b9 (.lst (bt9.map V.str)) b9 = some (.lst (bt9.map V.str)) from upd_same), bd 72 (by decide), fun a9 ha9 => ?_⟩
  have s9 : Same H (upd (upd G8 b9 (.lst (bt9.map V.str))) a9 (.lst ((bt0 ++ bt1 ++ bt2 ++ bt3 ++ bt4 ++ bt5 ++ bt6 ++ bt7 ++ bt8 ++ bt9 : List Str).map V.str))) := s8.trans ((same_upd hb9 (.lst (bt9.map V.str))).trans (same_upd ha9 (.lst (((bt0 ++ bt1 ++ bt2 ++ bt3 ++ bt4 ++ bt5 ++ bt6 ++ bt7 ++ bt8 ++ bt9 : List Str)).map V.str))))
  have h9 : upd (upd G8 b9 (.lst (bt9.map V.str))) a9 (.lst ((bt0 ++ bt1 ++ bt2 ++ bt3 ++ bt4 ++ bt5 ++ bt6 ++ bt7 ++ bt8 ++ bt9 : List Str).map V.str)) a9 = some (.lst ((bt0 ++ bt1 ++ bt2 ++ bt3 ++ bt4 ++ bt5 ++ bt6 ++ bt7 ++ bt8 ++ bt9 : List Str).map V.str)) := upd_same
  have hl : ((badTs.map V.str).length : Int) = 72 := by decide +kernel
  have hB : upd (upd G8 b9 (.lst (bt9.map V.str))) a9 (.lst ((bt0 ++ bt1 ++ bt2 ++ bt3 ++ bt4 ++ bt5 ++ bt6 ++ bt7 ++ bt8 ++ bt9 : List Str).map V.str)) a9 = some (.lst (badTs.map V.str)) := h9
  refine ⟨_, rfl, _, rfl, cell, 70, rfl, by decide, by decide, fun n n0 n1 => ?_⟩
  refine ⟨_, rfl, a9, _, rfl, .inl (SqL.of hB), _, _, rfl, rfl, (by rw [hl]; show (0 : Int) < 72; decide), ?_⟩
  obtain ⟨v, hv, hm⟩ := at_mem (xs := badTs.map V.str) (i := n % ((badTs.map V.str).length : Int)) (mod_lt _ (by rw [hl]; decide)).1 (mod_lt _ (by rw [hl]; decide)).2
  obtain ⟨t, ht, rfl⟩ := List.mem_map.mp hm
  exact ⟨a9, _, _, .str t, rfl, rfl, SqL.of hB, hv, q t ht _ s9⟩
end
end Car

set_option maxHeartbeats 2000000
namespace Car
open PySem L2
theorem codeR (ks : List Rk) : codeO (readR ks) = if 120 < ks.length then 0 else codeJ ks := by
  unfold readR codeJ
  split
  · rfl
  · cases runR M0 ks with
    | ok M => rfl
    | error e => rfl
noncomputable def bsOf : Except Er Unit → List Bool
  | .ok _ => []
  | .error e => (List.range 13).map fun k : Nat => decide (code e = (k : Int))
theorem told_is (r : Except Er Unit) : toldV r = (bsOf r).map V.bl := by
  cases r with
  | ok _ => rfl
  | error e => cases e <;> rfl
theorem code_nn (e : Er) : 0 ≤ code e := by cases e <;> decide
section
variable {K : PySem.W.Frag} {H : Hp}
theorem Rps.bls : ∀ bs : List Bool, Rps K H (bs.map V.bl) (bs.map PyData.bool)
  | [] => .nil
  | b :: r => .cons (.bl b) (Rps.bls r)
theorem bls_can : ∀ bs : List Bool, PyData.canLayAll0 (bs.map PyData.bool) = true ∧ PyData.depthAll (bs.map PyData.bool) = 0
  | [] => ⟨rfl, rfl⟩
  | b :: r => by
    obtain ⟨h1, h2⟩ := bls_can r
    rw [List.map_cons, PyData.canLayAll0, PyData.depthAll, h1, h2]
    exact ⟨rfl, rfl⟩
theorem shaped_bls (bs : List Bool) : SeqAt.shaped (.list (bs.map PyData.bool)) = true := by
  obtain ⟨h1, h2⟩ := bls_can bs
  unfold SeqAt.shaped
  rw [PyData.canLay0, h1, PyData.depth, h2]
  rfl
theorem eqv_bls (bs : List Bool) : PyData.eqv (.list (bs.map PyData.bool)) (.list (bs.map PyData.bool)) = true := eqv_self _ (by rw [PyData.canLay0]; exact (bls_can bs).1)
end
theorem decI (x y : Int) : decide (V.int x = V.int y) = decide (x = y) := by
  by_cases h : x = y
  · rw [decide_eq_true h, decide_eq_true (by rw [h])]
  · rw [decide_eq_false h, decide_eq_false (fun z => h (by injection z))]
theorem RsAt.all {H : Hp} : ∀ {as : List Addr} {rs : List Lr}, RsAt H as rs → ∀ r ∈ rs, r.ok
  | [], [], _, r, hr => by cases hr
  | a :: as, r :: rs, ⟨h, t⟩, x, hx => by
    rcases List.mem_cons.mp hx with rfl | hx
    · exact h.2
    · exact RsAt.all t x hx
theorem RsAt.take {H : Hp} : ∀ {as : List Addr} {rs : List Lr} (n : Nat), RsAt H as rs → RsAt H (as.take n) (rs.take n)
  | [], [], n, _ => by rw [List.take_nil, List.take_nil]; trivial
  | a :: as, r :: rs, 0, _ => trivial
  | a :: as, r :: rs, n + 1, ⟨h, t⟩ => ⟨h, RsAt.take n t⟩
theorem ndkd : (["k", "due"] : List Str).Nodup := by decide +kernel
section
variable {P : Program} {w : World} {K : PySem.W.Frag} {mg : Str → Option Value} {base : Heap} {f : Addr} {fd' : FuncData}
theorem int_of {ms : List Int} {i : Nat} {x : V} (h : (ms.map V.int)[i]? = some x) : ∃ z, x = .int z := by
  rw [List.getElem?_map] at h
  cases hm : ms[i]? with
  | none => rw [hm] at h; cases h
  | some z => rw [hm] at h; cases h; exact ⟨z, rfl⟩
theorem RsAt.reps {H : Hp} {as : List Addr} {rs : List Lr} (h : RsAt H as rs) : ∀ n : Nat, RsAt H (List.replicate n as).flatten (List.replicate n rs).flatten
  | 0 => trivial
  | n + 1 => by
    rw [List.replicate_succ, List.flatten_cons, List.replicate_succ, List.flatten_cons]
    exact h.append (RsAt.reps h n)
theorem reps_ref (as : List Addr) : ∀ n : Nat, (List.replicate n (as.map V.ref)).flatten = ((List.replicate n as).flatten).map V.ref
  | 0 => rfl
  | n + 1 => by rw [List.replicate_succ, List.flatten_cons, reps_ref as n, List.replicate_succ, List.flatten_cons, List.map_append]
theorem lr_let1 : Lr.ok ⟨"let a 1", "plain", "", 0, .plain⟩ := ⟨by decide +kernel, by decide +kernel, by decide +kernel, by decide +kernel, (show Txt.split "let a 1" " " = (["let", "a", "1"] : List Str) by decide +kernel) ▸ RowW.let_ gn_a ge_1, .plain⟩
noncomputable def spLaw (K : PySem.W.Frag) : Sp := fun vs H Q _ => ∃ (a : Addr) (ns : List Int), vs = [.ref a] ∧ SqL K H a (ns.map V.int) ∧ ns.length ≤ 63 ∧ ∀ H', Q (.bl true) H'
theorem scLaw : FnScope ["script", "rows", "cell", "number", "many", "due"] ["script"] (defScope sLaw) := ⟨rfl, rfl, rfl, by decide +kernel, rfl, by decide +kernel, by decide +kernel⟩
theorem ok_law (T : LawT mg) (FC : Fn P w K mg base "_law_cell_at" 1 ["script", "k"] (spAt K)) (FS : Fn P w K mg base "_law_stir" 1 ["cell", "k"] spStir) (FB : Fn P w K mg base "_law_bad" 2 ["cell"] spBad) (FA : Fn P w K mg base "_law_any_row" 2 ["cell"] spAny) (FJ : Fn P w K mg base "_law_judged" 2 ["rows"] spJudged) (FR : Fn P w K mg base "_law_refusal" 31 ["rows"] spRefusal) (F : Fun K "law" "law" sLaw f fd') :
    FnOk P w K mg base (CX1 P w) 32 f fd' ["script"] (spLaw K) := by
  have nd := scLaw.nd
  refine F.ok1 scLaw (fun vs H Q E h => ?_) (fun cdv A outer s H vs Q E hr h => ?_)
  · obtain ⟨a, ns, rfl, _⟩ := h
    rfl
  obtain ⟨a, ns, rfl, hS, hn, q⟩ := h
  have hr1 : Room 1 _ := hr.mono (by decide)
  have hr2 : Room 2 _ := hr.mono (by decide)
  refine ⟨_, (pss_cons (ps_set (i := 1) nd rfl (Or.inl rfl) (pe_lst pa_nil))
    (pss_cons (ps_for own1 rfl (pi_list (pe_slice sl_list (pv 0) po_none (po_some pe_int))) (pg_name (i := 2) nd rfl (Or.inl rfl)) (pss_one (ps_if (pt_cmpR op_eq (pe_op op_mod (pf_call FS hr1 rfl (pass1 (E := E)) (pa_cons (pv 2) (pa_cons pe_int pa_nil))) pe_int) pe_int (nomark _)) (pss_one (ps_expr (pe_bm PySem.F.plainAttrs_list PySem.F.slot_list_append PySem.F.type_list_append mt_append (pv 1) (pa_cons (pe_lst (pa_cons (pf_call FB hr2 rfl (pass1 (E := E)) (pa_cons (pv 2) pa_nil)) (pa_cons pe_str (pa_cons pe_str (pa_cons pe_int pa_nil))))) pa_nil)))) (pss_one (ps_expr (pe_bm PySem.F.plainAttrs_list PySem.F.slot_list_append PySem.F.type_list_append mt_append (pv 1) (pa_cons (pf_call FA hr2 rfl (pass1 (E := E)) (pa_cons (pv 2) pa_nil)) pa_nil)))))))
    (pss_cons (ps_set (i := 3) nd rfl (Or.inl rfl) (pf_call FC hr1 rfl (pass1 (E := E)) (pa_cons (pv 0) (pa_cons pe_int pa_nil))))
    (pss_mid (ps_if (pt_cmpR (op_eqD hr.units) (pv 1) (pe_lst pa_nil) (nomark _)) (pss_one (ps_set (i := 1) nd rfl (Or.inl rfl) (pe_lst (pa_cons (pe_lst (pa_cons pe_str (pa_cons pe_str (pa_cons pe_str (pa_cons pe_int pa_nil))))) pa_nil)))) pss_nil)
    (pss_mid (ps_if (pt_cmpR op_eq (pe_op op_mod (pe_op op_fdiv (pv 3) pe_int) pe_int) pe_int (nomark _)) (pss_cons (ps_set (i := 4) nd rfl (Or.inl rfl) (pe_ix (ix_listK (K := K) rfl) (pe_lst (pa_cons pe_int (pa_cons pe_int (pa_cons pe_int (pa_cons pe_int (pa_cons (pe_op op_add pe_int (pe_op op_mod (pe_op op_fdiv (pv 3) pe_int) pe_int)) pa_nil)))))) (pe_op op_mod (pe_op op_fdiv (pv 3) pe_int) pe_int) (fun _ _ => rfl)))
    (pss_one (ps_set (i := 1) nd rfl (Or.inl rfl) (pe_slice sl_list (pe_op op_rep (pv 1) (pv 4)) po_none (po_some (pv 4)))))) pss_nil)
    (pss_cons (ps_set (i := 5) nd rfl (Or.inr rfl) (pf_call FJ hr2 rfl (pass1 (E := E)) (pa_cons (pv 1) pa_nil)))
    (pss_mid (ps_if (pt_cmpR op_gt (pe_callB call_len_seq rfl T.len PySem.boot_len (pa_cons (pv 1) pa_nil)) pe_int (nomark _)) (pss_one (ps_set (i := 5) nd rfl (Or.inr rfl) pe_int)) pss_nil)
    (pss_one (ps_ret (pe_cmpR (op_eqD hr.units) (pf_call FR hr rfl (pass1 (E := E)) (pa_cons (pe_lc (own := ["row"]) (capn := []) (capI := []) rfl (blk0 rfl (by decide +kernel)) (pi_list (pv 1)) (fun _ _ _ _ _ _ => pg_name (i := 0) (nd1 "row") rfl (Or.inl rfl)) (fun _ _ _ _ _ _ => pifs_nil) (fun _ _ _ _ _ _ => (pe_ix (ix_listK (K := K) rfl) (pv 0) pe_int (fun _ _ => rfl)))) pa_nil)) (pe_lc (own := ["k"]) (capn := ["due"]) (capI := [5]) rfl (blkC (defScope sLaw) rfl rfl (by decide +kernel) rfl (fun y hy => by
      rcases List.mem_cons.mp hy with rfl | hy
      · exact ⟨rfl, rfl⟩
      cases hy)) (pi_range1 rfl T.range (pa_cons (pe_ix (ix_listK (K := K) rfl) (pe_lst (pa_cons pe_int (pa_cons pe_int pa_nil))) (pe_callTy call_int1 rfl T.int bt_int (pa_cons (pe_cmpR op_lt (pv 5) pe_int (nomark _)) pa_nil)) (fun _ _ => rfl)) pa_nil)) (fun _ _ _ _ _ _ => pg_name (i := 0) ndkd rfl (Or.inl rfl)) (fun _ _ _ _ _ _ => pifs_nil) (fun _ _ _ _ _ _ => (pe_cmpR op_eq (pv 1) (pv 0) (nomark _)))) (nomark _))))))))))), ?_⟩
  refine ⟨Nat.zero_le _, fun D hD => ?_⟩
  have s0 := same_upd hD (.lst [])
  have hD0 : upd H D (.lst []) D = some (.lst []) := upd_same
  generalize upd H D (.lst []) = H0 at s0 hD0 ⊢
  refine ⟨_, rfl, 63, rfl, a, _, rfl, s0.seq hS, fun p hp => ⟨p, rfl, ⟨_, SqL.of upd_same⟩, ?_⟩⟩
  have hms : cutV (ns.map V.int) none (some 63) = ns.map V.int := by
    rw [cut_to _ _ (by decide)]
    exact List.take_of_length_le (by rw [List.length_map]; exact hn)
  rw [hms]
  have npD : p ≠ D := fun z => by rw [z, hD0] at hp; cases hp
  have s1 := s0.trans (same_upd hp (.lst (ns.map V.int)))
  have hP : upd H0 p (.lst (ns.map V.int)) p = some (.lst (ns.map V.int)) := upd_same
  have hD1 := same_upd hp (.lst (ns.map V.int)) _ _ hD0
  generalize upd H0 p (.lst (ns.map V.int)) = H1 at s1 hP hD1 ⊢
  refine for_list (K := K) (a := p) (xs := ns.map V.int) (fun i σ Hc => ∃ (as : List Addr) (rs : List Lr) (o : Option V), σ = [some (.ref a), some (.ref D), o, none, none, none] ∧ Same H Hc ∧ Hc p = some (.lst (ns.map V.int)) ∧ Hc D = some (.lst (as.map V.ref)) ∧ RsAt Hc as rs ∧ rs.length ≤ i) ⟨[], [], none, rfl, s1, hP, hD1, trivial, Nat.le_refl _⟩ (fun i σ Hc _ ⟨_, _, _, _, _, hp', _⟩ => SqL.of hp') ?_ ?_
  · rintro i y σ Hc hy ⟨as, rs, o, rfl, sc, hpc, hDc, ra, hrl⟩
    have hi : i < ns.length := by
      have := (List.getElem?_eq_some_iff.mp hy).1
      rw [List.length_map] at this
      exact this
    have hal := ra.len
    obtain ⟨cell, rfl⟩ := int_of hy
    refine ⟨_, rfl, cell, 81, rfl, by decide, by decide, fun n n0 n1 => ⟨_, _, rfl, rfl, (by show (0 : Int) < 8; decide), rfl, _, rfl, ?_⟩⟩
    have add : ∀ (r : Lr) (b : Addr) (H2 : Hp), r.ok → Same Hc H2 → H2 b = some (.lst r.vs) → ∃ (as' : List Addr) (rs' : List Lr) (o : Option V), [some (V.ref a), some (.ref D), some (.int cell), none, none, none] = [some (.ref a), some (.ref D), o, none, none, none] ∧ Same H (upd H2 D (.lst (as.map V.ref ++ [.ref b]))) ∧ upd H2 D (.lst (as.map V.ref ++ [.ref b])) p = some (.lst (ns.map V.int)) ∧ upd H2 D (.lst (as.map V.ref ++ [.ref b])) D = some (.lst (as'.map V.ref)) ∧ RsAt (upd H2 D (.lst (as.map V.ref ++ [.ref b]))) as' rs' ∧ rs'.length ≤ i + 1 := fun r b H2 ok s2 hb =>
      ⟨as ++ [b], rs ++ [r], _, rfl, same_in (sc.trans s2) hD, by rw [upd_ne npD]; exact s2 _ _ hpc, by rw [upd_same, List.map_append]; rfl, RsAt.upd (refs_no (s2 _ _ hDc)) ((ra.same s2).snoc hb ok), by rw [List.length_append, List.length_singleton]; omega⟩
    have hsz : (as.map V.ref).length < sizeLine := line3 (c := 1000) (by rw [List.length_map]; omega) (by decide)
    refine ite2 (fun _ => ?_) (fun _ => ?_)
    · refine ⟨_, rfl, .inl ⟨rfl, _, SqL.of hDc⟩, _, rfl, cell, rfl, fun t ht H2 s2 => ⟨le4, fun b hb => ?_⟩⟩
      refine ⟨D, _, .ref b, rfl, rfl, same_upd hb _ _ _ (s2 _ _ hDc), hsz, ?_⟩
      exact add ⟨t, "bad", "", 0, .bad⟩ b _ (bad_lr ht) (s2.trans (same_upd hb _)) upd_same
    · refine ⟨_, rfl, .inl ⟨rfl, _, SqL.of hDc⟩, _, rfl, cell, rfl, fun r b H2 ok s2 hb => ?_⟩
      exact ⟨D, _, .ref b, rfl, rfl, s2 _ _ hDc, hsz, add r b H2 ok s2 hb⟩
  rintro σ Hc ⟨as, rs, o, rfl, s3, _, hD3, ra, hrl⟩
  rw [List.length_map] at hrl
  refine ⟨_, rfl, a, ns, 0, rfl, s3.seq hS, Int.le_refl _, fun num => ?_⟩
  -- not empty
  refine ⟨fun σ Hc => ∃ (D : Addr) (as : List Addr) (rs : List Lr), σ = [some (.ref a), some (.ref D), o, some (.int num), none, none] ∧ Same H Hc ∧ Hc D = some (.lst (as.map V.ref)) ∧ RsAt Hc as rs ∧ rs.length ≤ 63 ∧ rs ≠ [], ?_, ?_⟩
  · refine ⟨_, rfl, Nat.zero_le _, fun T1 hT1 => ?_⟩
    have u1 := same_upd hT1 (.lst [])
    have ra1 := ra.same u1
    refine ⟨_, _, Rp.lst (SqL.of (u1 _ _ hD3)) ra1.rps, Rp.lst (SqL.of upd_same) .nil, ra1.shaped, by decide +kernel, _, rfl, ?_⟩
    rw [ifF, eqv_nil, List.length_map]
    generalize upd Hc T1 (.lst []) = H4 at u1 ra1 ⊢
    by_cases h0 : rs.length = 0
    · rw [decide_eq_true h0]
      refine iteT ⟨le4, fun e he => ⟨le1, fun L hL => ?_⟩⟩
      exact ⟨L, [e], [⟨"let a 1", "plain", "", 0, .plain⟩], rfl, s3.trans (u1.trans ((same_upd he _).trans (same_upd hL _))), upd_same, ⟨⟨same_upd hL _ _ _ upd_same, lr_let1⟩, trivial⟩, by decide, by simp⟩
    · rw [decide_eq_false h0]
      exact iteF ⟨D, as, rs, rfl, s3.trans u1, u1 _ _ hD3, ra1, by omega, fun z => h0 (by rw [z]; rfl)⟩
  clear hD3 ra hrl s3
  rintro σ Hc ⟨D, as, rs, rfl, s3, hD3, ra, hrl, hne⟩
  -- many
  refine ⟨fun σ Hc => ∃ (D : Addr) (as : List Addr) (rs : List Lr) (o4 : Option V), σ = [some (.ref a), some (.ref D), o, some (.int num), o4, none] ∧ Same H Hc ∧ Hc D = some (.lst (as.map V.ref)) ∧ RsAt Hc as rs ∧ rs.length ≤ 400 ∧ rs ≠ [], ?_, ?_⟩
  · refine ⟨_, rfl, _, _, rfl, rfl, ⟨by decide, by decide⟩, _, _, rfl, rfl, (by show (0 : Int) < 8; decide), rfl, _, rfl, ?_⟩
    refine ite2 (fun _ => ?_) (fun _ => ⟨D, as, rs, _, rfl, s3, hD3, ra, by omega, hne⟩)
    have b1 := mod_lt (num / 280) (show (0 : Int) < 280 by decide)
    have b2 := mod_lt (num / 56) (show (0 : Int) < 5 by decide)
    obtain ⟨v, hv, hm⟩ := at_mem (xs := [V.int 119, .int 120, .int 121, .int 122, .int (121 + num / 280 % 280)]) (i := num / 56 % 5) b2.1 b2.2
    have hx : ∃ k : Int, v = .int k ∧ 119 ≤ k ∧ k ≤ 400 := by
      simp only [List.mem_cons, List.not_mem_nil, or_false] at hm
      rcases hm with rfl | rfl | rfl | rfl | rfl
      · exact ⟨_, rfl, by decide, by decide⟩
      · exact ⟨_, rfl, by decide, by decide⟩
      · exact ⟨_, rfl, by decide, by decide⟩
      · exact ⟨_, rfl, by decide, by decide⟩
      · exact ⟨_, rfl, by omega, by omega⟩
    obtain ⟨k, rfl, k0, k1⟩ := hx
    refine ⟨_, rfl, _, _, rfl, rfl, ⟨by decide, by decide⟩, _, _, rfl, rfl, (by show (0 : Int) < 280; decide), _, _, rfl, rfl, le5, fun L hL => ⟨_, rfl, _, _, rfl, rfl, ⟨by decide, by decide⟩, _, _, rfl, rfl, (by show (0 : Int) < 5; decide), L, _, _, .int k, rfl, rfl, SqL.of upd_same, hv, ?_⟩⟩
    have u1 := same_upd hL (.lst [V.int 119, .int 120, .int 121, .int 122, .int (121 + num / 280 % 280)])
    have hal := ra.len
    have hlr : 1 ≤ rs.length := List.length_pos_iff.mpr hne
    refine ⟨_, rfl, _, rfl, D, k, _, rfl, rfl, u1 _ _ hD3, by omega, by omega, ?_, fun p1 hp1 => ?_⟩
    · rw [List.length_map, hal]
      have h1 : rs.length * k.toNat ≤ 63 * 400 := Nat.mul_le_mul hrl (by omega)
      exact Nat.le_trans h1 (by decide)
    refine ⟨_, rfl, k, rfl, p1, _, rfl, SqL.of upd_same, fun p2 hp2 => ?_⟩
    rw [reps_ref] at hp2 ⊢
    rw [cut_to _ _ (by omega), ← List.map_take]
    refine ⟨p2, ((List.replicate k.toNat as).flatten).take k.toNat, ((List.replicate k.toNat rs).flatten).take k.toNat, _, rfl, s3.trans (u1.trans ((same_upd hp1 _).trans (same_upd hp2 _))), upd_same, ((ra.reps _).take _).same (u1.trans ((same_upd hp1 _).trans (same_upd hp2 _))), ?_, fun z => ?_⟩
    · rw [List.length_take]
      omega
    · have h2 : (((List.replicate k.toNat rs).flatten).take k.toNat).length = 0 := by rw [z]; rfl
      rw [List.length_take, len_rep] at h2
      have h3 : k.toNat * 1 ≤ k.toNat * rs.length := Nat.mul_le_mul_left _ hlr
      omega
  clear hD3 ra hrl s3
  rintro σ Hc ⟨D, as, rs, o4, rfl, s3, hD3, ra, hrl, hne⟩
  have hal := ra.len
  refine ⟨_, rfl, D, as, rs, rfl, hD3, ra, by omega, fun H4 s4 => ?_⟩
  have hD4 := s4 _ _ hD3
  have ra4 := ra.same s4
  -- too long
  refine ⟨fun σ H5 => σ = [some (.ref a), some (.ref D), o, some (.int num), o4, some (.int (codeO (readR (rs.map Lr.rk))))] ∧ H5 = H4, ?_, ?_⟩
  · refine ⟨_, rfl, D, _, rfl, .inl (SqL.of hD4), _, _, rfl, rfl, _, rfl, ?_⟩
    rw [codeR, List.length_map, List.length_map, hal]
    by_cases h1 : 120 < rs.length
    · rw [decide_eq_true (show ((rs.length : Nat) : Int) > 120 by omega), if_pos h1]
      exact iteT ⟨rfl, rfl⟩
    · rw [decide_eq_false (show ¬ ((rs.length : Nat) : Int) > 120 by omega), if_neg h1]
      exact iteF ⟨rfl, rfl⟩
  rintro σ H5 ⟨rfl, rfl⟩
  -- the texts
  refine ⟨_, rfl, D, rfl, ⟨_, SqL.of hD4⟩, fun L hL => ?_⟩
  refine ⟨Wd as.length (fun i σ acc H6 => ∃ (o : Option V), σ = [o] ∧ acc = ((rs.take i).map Lr.t).map V.str ∧ Same H5 H6 ∧ H6 L = some (.lst acc)), wd_0 ⟨none, rfl, rfl, same_upd hL _, upd_same⟩, ?_⟩
  rintro i m σ acc H6 ⟨rfl, hi0, o', rfl, rfl, s6, hL6⟩
  refine lc_ask (K := K) (a := D) (xs := as.map V.ref) (SqL.of (s6 _ _ hD4)) (by rw [List.length_map]; exact hi0) (fun y hy hlt => ?_) (fun hend => ?_)
  · rw [List.length_map] at hlt
    obtain ⟨b, r, rfl, hb, ok, hri, hdr⟩ := ra4.get hy
    have tk : rs.take (i + 1) = rs.take i ++ [r] := by
      obtain ⟨hl1, e1⟩ := List.getElem?_eq_some_iff.mp hri
      rw [List.take_succ_eq_append_getElem hl1, e1]
    refine ⟨_, rfl, b, _, 0, .str r.t, rfl, rfl, SqL.of (s6 _ _ hb), rfl, hL6, line3 (c := 1000) (by rw [List.length_map, List.length_map, List.length_take]; omega) (by decide), wd_next hlt ⟨_, rfl, ?_, same_in s6 hL, upd_same⟩⟩
    rw [tk, List.map_append, List.map_append]
    rfl
  rw [List.length_map] at hend
  rw [List.take_of_length_le (by omega)] at hL6
  refine ⟨L, rs, rfl, hL6, hne, ra4.all, by omega, fun l H7 s7 hl => ?_⟩
  rw [told_is] at hl
  obtain ⟨res, hres⟩ : ∃ res, readR (rs.map Lr.rk) = res := ⟨_, rfl⟩
  rw [hres] at hl ⊢
  -- what is due
  refine ⟨le2, fun L2 hL2 => ⟨_, rfl, _, _, rfl, rfl, .inr ⟨_, rfl, ?_⟩⟩⟩
  have u8 := same_upd hL2 (.lst [.int 13, .int 0])
  have hl8 := u8 _ _ hl
  have hL28 : upd H7 L2 (.lst [.int 13, .int 0]) L2 = some (.lst [.int 13, .int 0]) := upd_same
  generalize upd H7 L2 (.lst [.int 13, .int 0]) = H8 at hl8 hL28 ⊢
  obtain ⟨N, hN⟩ : ∃ N : Nat, N = (bsOf res).length := ⟨_, rfl⟩
  have hat : atI [V.int 13, .int 0] (if decide (codeO res < 0) = true then 1 else 0) = some (.int (N : Int)) ∧ (N : Int) ≤ 13 ∧ bsOf res = (List.range N).map fun k : Nat => decide (codeO res = (k : Int)) := by
    cases res with
    | ok u =>
      have e : N = 0 := hN
      subst e
      exact ⟨rfl, by decide, rfl⟩
    | error er =>
      have e : N = 13 := hN
      subst e
      have := code_nn er
      refine ⟨?_, by decide, rfl⟩
      rw [if_neg (by show ¬ decide (code er < 0) = true; rw [decide_eq_false (by omega)]; decide)]
      rfl
  obtain ⟨h1, h2, h3⟩ := hat
  refine ⟨L2, _, _, .int (N : Int), rfl, rfl, SqL.of hL28, h1, (N : Int), rfl, by omega, by omega, fun D9 hD9 => ?_⟩
  refine ⟨Wd N (fun i σ acc H9 => ∃ (o : Option V), σ = [o, some (.int (codeO res))] ∧ acc = ((List.range i).map fun k : Nat => decide (codeO res = (k : Int))).map V.bl ∧ Same H8 H9 ∧ H9 D9 = some (.lst acc)), wd_0 ⟨none, rfl, rfl, same_upd hD9 _, upd_same⟩, ?_⟩
  rintro i m σ acc H9 ⟨rfl, hi0, o', rfl, rfl, s9, hD9'⟩
  refine rg_ask (by rw [Int.toNat_natCast]; exact hi0) (fun hi => ?_) (fun hend => ?_)
  · rw [Int.toNat_natCast] at hi
    refine ⟨_, rfl, _, rfl, rfl, hD9', ?_, wd_next hi ⟨_, rfl, ?_, same_in s9 hD9, upd_same⟩⟩
    · rw [List.length_map, List.length_map, List.length_range]
      exact line3 (c := 1000) (by omega) (by decide)
    · rw [List.range_succ, List.map_append, List.map_append, decI, Int.zero_add]
      rfl
  · rw [Int.toNat_natCast] at hend
    rw [hend, ← h3] at hD9'
    refine ⟨_, _, Rp.lst (SqL.of (s9 _ _ hl8)) (Rps.bls _), Rp.lst (SqL.of hD9') (Rps.bls _), shaped_bls _, shaped_bls _, ?_⟩
    rw [ifF, eqv_bls]
    exact q _
end
end Car

set_option maxHeartbeats 4000000
namespace Car
open PySem L2
structure FnT (K : PySem.W.Frag) (x : Str) (st : Stmt) (f : Addr) (fd : FuncData) : Prop where
  ns : PySem.W.nsIn K mainGlobals x = some (some (.ref f))
  fn : Fun K x x st f fd
theorem fnT_mk {K : PySem.W.Frag} {x : Str} {st : Stmt} {f : Addr} {oc : Value} {od an : Option Addr} {osl : Array (Option Value)} {kV doc pm cdv ct : Value} (a : PySem.W.nsIn K mainGlobals x = some (some (.ref f)))
    (l : K.lookup f = some ⟨oc, od, .func (PySem.W.fnOf x x (defArgs st) (defBody st) (defScope st) .none kV doc pm an cdv ct), osl⟩) (c : PySem.W.codeIn K cdv x = true) (k : PySem.W.keepIn K (.ref f) = true) : ∃ f fd, FnT K x st f fd := ⟨_, _, a, fun_mk l c k⟩
structure C_Scan (K : PySem.W.Frag) (C f0 f1 f2 f3 f4 f5 f6 f7 : Addr) (d0 d1 d2 d3 d4 d5 d6 d7 : FuncData) : Prop where
  ns : PySem.W.nsIn K mainGlobals "Scan" = some (some (.ref C))
  cl : Cls K C
  fn___init__ : Fun K "__init__" "Scan.__init__" (inClass (top 26) 0) f0 d0
  mks : Mk K C f0
  fn_sign_ahead : Fun K "sign_ahead" "Scan.sign_ahead" (inClass (top 26) 1) f1 d1
  mt_sign_ahead : Meth K C "sign_ahead" f1
  fn_take_sign : Fun K "take_sign" "Scan.take_sign" (inClass (top 26) 2) f2 d2
  mt_take_sign : Meth K C "take_sign" f2
  fn_take_terms : Fun K "take_terms" "Scan.take_terms" (inClass (top 26) 3) f3 d3
  mt_take_terms : Meth K C "take_terms" f3
  fn_take_factors : Fun K "take_factors" "Scan.take_factors" (inClass (top 26) 4) f4 d4
  mt_take_factors : Meth K C "take_factors" f4
  fn_take_factor : Fun K "take_factor" "Scan.take_factor" (inClass (top 26) 5) f5 d5
  mt_take_factor : Meth K C "take_factor" f5
  fn_take_brackets : Fun K "take_brackets" "Scan.take_brackets" (inClass (top 26) 6) f6 d6
  mt_take_brackets : Meth K C "take_brackets" f6
  fn_take_piece : Fun K "take_piece" "Scan.take_piece" (inClass (top 26) 7) f7 d7
  mt_take_piece : Meth K C "take_piece" f7
  n_word : NoAttr K C "word"
  n_at : NoAttr K C "at"
  n_brackets : NoAttr K C "brackets"
theorem C_Scan_mk {K : PySem.W.Frag} {C f0 f1 f2 f3 f4 f5 f6 f7 : Addr} {od0 an0 od1 an1 od2 an2 od3 an3 od4 an4 od5 an5 od6 an6 od7 an7 : Option Addr} {sl0 sl1 sl2 sl3 sl4 sl5 sl6 sl7 : Array (Option Value)} {oc0 kV0 dc0 pm0 cd0 ct0 oc1 kV1 dc1 pm1 cd1 ct1 oc2 kV2 dc2 pm2 cd2 ct2 oc3 kV3 dc3 pm3 cd3 ct3 oc4 kV4 dc4 pm4 cd4 ct4 oc5 kV5 dc5 pm5 cd5 ct5 oc6 kV6 dc6 pm6 cd6 ct6 oc7 kV7 dc7 pm7 cd7 ct7 : Value}
    (aC : PySem.W.nsIn K mainGlobals "Scan" = some (some (.ref C)))
    (a0 : PySem.W.findIn K (.ref C) "__init__" = some (some (.ref f0))) (i0 : PySem.W.isFn K (.ref f0) = true) (l0 : K.lookup f0 = some ⟨oc0, od0, .func (PySem.W.fnOf "__init__" "Scan.__init__" (defArgs (inClass (top 26) 0)) (defBody (inClass (top 26) 0)) (defScope (inClass (top 26) 0)) .none kV0 dc0 pm0 an0 cd0 ct0), sl0⟩) (c0 : PySem.W.codeIn K cd0 "Scan.__init__" = true) (k0 : PySem.W.keepIn K (.ref f0) = true)
    (a1 : PySem.W.findIn K (.ref C) "sign_ahead" = some (some (.ref f1))) (i1 : PySem.W.isFn K (.ref f1) = true) (l1 : K.lookup f1 = some ⟨oc1, od1, .func (PySem.W.fnOf "sign_ahead" "Scan.sign_ahead" (defArgs (inClass (top 26) 1)) (defBody (inClass (top 26) 1)) (defScope (inClass (top 26) 1)) .none kV1 dc1 pm1 an1 cd1 ct1), sl1⟩) (c1 : PySem.W.codeIn K cd1 "Scan.sign_ahead" = true) (k1 : PySem.W.keepIn K (.ref f1) = true)
    (a2 : PySem.W.findIn K (.ref C) "take_sign" = some (some (.ref f2))) (i2 : PySem.W.isFn K (.ref f2) = true) (l2 : K.lookup f2 = some ⟨oc2, od2, .func (PySem.W.fnOf "take_sign" "Scan.take_sign" (defArgs (inClass (top 26) 2)) (defBody (inClass (top 26) 2)) (defScope (inClass (top 26) 2)) .none kV2 dc2 pm2 an2 cd2 ct2), sl2⟩) (c2 : PySem.W.codeIn K cd2 "Scan.take_sign" = true) (k2 : PySem.W.keepIn K (.ref f2) = true)
    (a3 : PySem.W.findIn K (.ref C) "take_terms" = some (some (.ref f3))) (i3 : PySem.W.isFn K (.ref f3) = true) (l3 : K.lookup f3 = some ⟨oc3, od3, .func (PySem.W.fnOf "take_terms" "Scan.take_terms" (defArgs (inClass (top 26) 3)) (defBody (inClass (top 26) 3)) (defScope (inClass (top 26) 3)) .none kV3 dc3 pm3 an3 cd3 ct3), sl3⟩) (c3 : PySem.W.codeIn K cd3 "Scan.take_terms" = true) (k3 : PySem.W.keepIn K (.ref f3) = true)
    (a4 : PySem.W.findIn K (.ref C) "take_factors" = some (some (.ref f4))) (i4 : PySem.W.isFn K (.ref f4) = true) (l4 : K.lookup f4 = some ⟨oc4, od4, .func (PySem.W.fnOf "take_factors" "Scan.take_factors" (defArgs (inClass (top 26) 4)) (defBody (inClass (top 26) 4)) (defScope (inClass (top 26) 4)) .none kV4 dc4 pm4 an4 cd4 ct4), sl4⟩) (c4 : PySem.W.codeIn K cd4 "Scan.take_factors" = true) (k4 : PySem.W.keepIn K (.ref f4) = true)
    (a5 : PySem.W.findIn K (.ref C) "take_factor" = some (some (.ref f5))) (i5 : PySem.W.isFn K (.ref f5) = true) (l5 : K.lookup f5 = some ⟨oc5, od5, .func (PySem.W.fnOf "take_factor" "Scan.take_factor" (defArgs (inClass (top 26) 5)) (defBody (inClass (top 26) 5)) (defScope (inClass (top 26) 5)) .none kV5 dc5 pm5 an5 cd5 ct5), sl5⟩) (c5 : PySem.W.codeIn K cd5 "Scan.take_factor" = true) (k5 : PySem.W.keepIn K (.ref f5) = true)
    (a6 : PySem.W.findIn K (.ref C) "take_brackets" = some (some (.ref f6))) (i6 : PySem.W.isFn K (.ref f6) = true) (l6 : K.lookup f6 = some ⟨oc6, od6, .func (PySem.W.fnOf "take_brackets" "Scan.take_brackets" (defArgs (inClass (top 26) 6)) (defBody (inClass (top 26) 6)) (defScope (inClass (top 26) 6)) .none kV6 dc6 pm6 an6 cd6 ct6), sl6⟩) (c6 : PySem.W.codeIn K cd6 "Scan.take_brackets" = true) (k6 : PySem.W.keepIn K (.ref f6) = true)
    (a7 : PySem.W.findIn K (.ref C) "take_piece" = some (some (.ref f7))) (i7 : PySem.W.isFn K (.ref f7) = true) (l7 : K.lookup f7 = some ⟨oc7, od7, .func (PySem.W.fnOf "take_piece" "Scan.take_piece" (defArgs (inClass (top 26) 7)) (defBody (inClass (top 26) 7)) (defScope (inClass (top 26) 7)) .none kV7 dc7 pm7 an7 cd7 ct7), sl7⟩) (c7 : PySem.W.codeIn K cd7 "Scan.take_piece" = true) (k7 : PySem.W.keepIn K (.ref f7) = true)
    (pg : PySem.W.plainGet K C Str.empty = true) (hd : PySem.W.hasDictIn K C = true) (po : PySem.W.plainOver K C = true) (sa : PySem.W.findIn K (.ref C) "__setattr__" = some (some (.builtin "object.__setattr__"))) (mk : PySem.W.makesIn K C = true) (kc : PySem.W.keepIn K (.ref C) = true) (n0 : PySem.W.findIn K (.ref C) "word" = some none) (n1 : PySem.W.findIn K (.ref C) "at" = some none) (n2 : PySem.W.findIn K (.ref C) "brackets" = some none) :
    ∃ C f0 f1 f2 f3 f4 f5 f6 f7 d0 d1 d2 d3 d4 d5 d6 d7, C_Scan K C f0 f1 f2 f3 f4 f5 f6 f7 d0 d1 d2 d3 d4 d5 d6 d7 :=
  ⟨C, f0, f1, f2, f3, f4, f5, f6, f7, _, _, _, _, _, _, _, _, aC, ⟨pg, hd, po, sa⟩, fun_mk l0 c0 k0, ⟨mk, a0, i0, kc⟩, fun_mk l1 c1 k1, ⟨a1, i1, k1⟩, fun_mk l2 c2 k2, ⟨a2, i2, k2⟩, fun_mk l3 c3 k3, ⟨a3, i3, k3⟩, fun_mk l4 c4 k4, ⟨a4, i4, k4⟩, fun_mk l5 c5 k5, ⟨a5, i5, k5⟩, fun_mk l6 c6 k6, ⟨a6, i6, k6⟩, fun_mk l7 c7 k7, ⟨a7, i7, k7⟩, n0, n1, n2⟩
structure C_Draft (K : PySem.W.Frag) (C f0 f1 f2 f3 f4 f5 f6 f7 f8 f9 f10 f11 : Addr) (d0 d1 d2 d3 d4 d5 d6 d7 d8 d9 d10 d11 : FuncData) : Prop where
  ns : PySem.W.nsIn K mainGlobals "Draft" = some (some (.ref C))
  cl : Cls K C
  fn___init__ : Fun K "__init__" "Draft.__init__" (inClass (top 47) 0) f0 d0
  mks : Mk K C f0
  fn_put : Fun K "put" "Draft.put" (inClass (top 47) 1) f1 d1
  mt_put : Meth K C "put" f1
  fn_innermost : Fun K "innermost" "Draft.innermost" (inClass (top 47) 2) f2 d2
  mt_innermost : Meth K C "innermost" f2
  fn_put_plain : Fun K "put_plain" "Draft.put_plain" (inClass (top 47) 3) f3 d3
  mt_put_plain : Meth K C "put_plain" f3
  fn_look_at_depth : Fun K "look_at_depth" "Draft.look_at_depth" (inClass (top 47) 4) f4 d4
  mt_look_at_depth : Meth K C "look_at_depth" f4
  fn_begin_sub : Fun K "begin_sub" "Draft.begin_sub" (inClass (top 47) 5) f5 d5
  mt_begin_sub : Meth K C "begin_sub" f5
  fn_begin_times : Fun K "begin_times" "Draft.begin_times" (inClass (top 47) 6) f6 d6
  mt_begin_times : Meth K C "begin_times" f6
  fn_begin_if : Fun K "begin_if" "Draft.begin_if" (inClass (top 47) 7) f7 d7
  mt_begin_if : Meth K C "begin_if" f7
  fn_turn_to_else : Fun K "turn_to_else" "Draft.turn_to_else" (inClass (top 47) 8) f8 d8
  mt_turn_to_else : Meth K C "turn_to_else" f8
  fn_end_body : Fun K "end_body" "Draft.end_body" (inClass (top 47) 9) f9 d9
  mt_end_body : Meth K C "end_body" f9
  fn_look_at_end : Fun K "look_at_end" "Draft.look_at_end" (inClass (top 47) 10) f10 d10
  mt_look_at_end : Meth K C "look_at_end" f10
  fn_look_at_calls : Fun K "look_at_calls" "Draft.look_at_calls" (inClass (top 47) 11) f11 d11
  mt_look_at_calls : Meth K C "look_at_calls" f11
  n_subs : NoAttr K C "subs"
  n_body : NoAttr K C "body"
  n_unended : NoAttr K C "unended"
  n_names_due : NoAttr K C "names_due"
  n_calls : NoAttr K C "calls"
theorem C_Draft_mk {K : PySem.W.Frag} {C f0 f1 f2 f3 f4 f5 f6 f7 f8 f9 f10 f11 : Addr} {od0 an0 od1 an1 od2 an2 od3 an3 od4 an4 od5 an5 od6 an6 od7 an7 od8 an8 od9 an9 od10 an10 od11 an11 : Option Addr} {sl0 sl1 sl2 sl3 sl4 sl5 sl6 sl7 sl8 sl9 sl10 sl11 : Array (Option Value)} {oc0 kV0 dc0 pm0 cd0 ct0 oc1 kV1 dc1 pm1 cd1 ct1 oc2 kV2 dc2 pm2 cd2 ct2 oc3 kV3 dc3 pm3 cd3 ct3 oc4 kV4 dc4 pm4 cd4 ct4 oc5 kV5 dc5 pm5 cd5 ct5 oc6 kV6 dc6 pm6 cd6 ct6 oc7 kV7 dc7 pm7 cd7 ct7 oc8 kV8 dc8 pm8 cd8 ct8 oc9 kV9 dc9 pm9 cd9 ct9 oc10 kV10 dc10 pm10 cd10 ct10 oc11 kV11 dc11 pm11 cd11 ct11 : Value}
    (aC : PySem.W.nsIn K mainGlobals "Draft" = some (some (.ref C)))
    (a0 : PySem.W.findIn K (.ref C) "__init__" = some (some (.ref f0))) (i0 : PySem.W.isFn K (.ref f0) = true) (l0 : K.lookup f0 = some ⟨oc0, od0, .func (PySem.W.fnOf "__init__" "Draft.__init__" (defArgs (inClass (top 47) 0)) (defBody (inClass (top 47) 0)) (defScope (inClass (top 47) 0)) .none kV0 dc0 pm0 an0 cd0 ct0), sl0⟩) (c0 : PySem.W.codeIn K cd0 "Draft.__init__" = true) (k0 : PySem.W.keepIn K (.ref f0) = true)
    (a1 : PySem.W.findIn K (.ref C) "put" = some (some (.ref f1))) (i1 : PySem.W.isFn K (.ref f1) = true) (l1 : K.lookup f1 = some ⟨oc1, od1, .func (PySem.W.fnOf "put" "Draft.put" (defArgs (inClass (top 47) 1)) (defBody (inClass (top 47) 1)) (defScope (inClass (top 47) 1)) .none kV1 dc1 pm1 an1 cd1 ct1), sl1⟩) (c1 : PySem.W.codeIn K cd1 "Draft.put" = true) (k1 : PySem.W.keepIn K (.ref f1) = true)
    (a2 : PySem.W.findIn K (.ref C) "innermost" = some (some (.ref f2))) (i2 : PySem.W.isFn K (.ref f2) = true) (l2 : K.lookup f2 = some ⟨oc2, od2, .func (PySem.W.fnOf "innermost" "Draft.innermost" (defArgs (inClass (top 47) 2)) (defBody (inClass (top 47) 2)) (defScope (inClass (top 47) 2)) .none kV2 dc2 pm2 an2 cd2 ct2), sl2⟩) (c2 : PySem.W.codeIn K cd2 "Draft.innermost" = true) (k2 : PySem.W.keepIn K (.ref f2) = true)
    (a3 : PySem.W.findIn K (.ref C) "put_plain" = some (some (.ref f3))) (i3 : PySem.W.isFn K (.ref f3) = true) (l3 : K.lookup f3 = some ⟨oc3, od3, .func (PySem.W.fnOf "put_plain" "Draft.put_plain" (defArgs (inClass (top 47) 3)) (defBody (inClass (top 47) 3)) (defScope (inClass (top 47) 3)) .none kV3 dc3 pm3 an3 cd3 ct3), sl3⟩) (c3 : PySem.W.codeIn K cd3 "Draft.put_plain" = true) (k3 : PySem.W.keepIn K (.ref f3) = true)
    (a4 : PySem.W.findIn K (.ref C) "look_at_depth" = some (some (.ref f4))) (i4 : PySem.W.isFn K (.ref f4) = true) (l4 : K.lookup f4 = some ⟨oc4, od4, .func (PySem.W.fnOf "look_at_depth" "Draft.look_at_depth" (defArgs (inClass (top 47) 4)) (defBody (inClass (top 47) 4)) (defScope (inClass (top 47) 4)) .none kV4 dc4 pm4 an4 cd4 ct4), sl4⟩) (c4 : PySem.W.codeIn K cd4 "Draft.look_at_depth" = true) (k4 : PySem.W.keepIn K (.ref f4) = true)
    (a5 : PySem.W.findIn K (.ref C) "begin_sub" = some (some (.ref f5))) (i5 : PySem.W.isFn K (.ref f5) = true) (l5 : K.lookup f5 = some ⟨oc5, od5, .func (PySem.W.fnOf "begin_sub" "Draft.begin_sub" (defArgs (inClass (top 47) 5)) (defBody (inClass (top 47) 5)) (defScope (inClass (top 47) 5)) .none kV5 dc5 pm5 an5 cd5 ct5), sl5⟩) (c5 : PySem.W.codeIn K cd5 "Draft.begin_sub" = true) (k5 : PySem.W.keepIn K (.ref f5) = true)
    (a6 : PySem.W.findIn K (.ref C) "begin_times" = some (some (.ref f6))) (i6 : PySem.W.isFn K (.ref f6) = true) (l6 : K.lookup f6 = some ⟨oc6, od6, .func (PySem.W.fnOf "begin_times" "Draft.begin_times" (defArgs (inClass (top 47) 6)) (defBody (inClass (top 47) 6)) (defScope (inClass (top 47) 6)) .none kV6 dc6 pm6 an6 cd6 ct6), sl6⟩) (c6 : PySem.W.codeIn K cd6 "Draft.begin_times" = true) (k6 : PySem.W.keepIn K (.ref f6) = true)
    (a7 : PySem.W.findIn K (.ref C) "begin_if" = some (some (.ref f7))) (i7 : PySem.W.isFn K (.ref f7) = true) (l7 : K.lookup f7 = some ⟨oc7, od7, .func (PySem.W.fnOf "begin_if" "Draft.begin_if" (defArgs (inClass (top 47) 7)) (defBody (inClass (top 47) 7)) (defScope (inClass (top 47) 7)) .none kV7 dc7 pm7 an7 cd7 ct7), sl7⟩) (c7 : PySem.W.codeIn K cd7 "Draft.begin_if" = true) (k7 : PySem.W.keepIn K (.ref f7) = true)
    (a8 : PySem.W.findIn K (.ref C) "turn_to_else" = some (some (.ref f8))) (i8 : PySem.W.isFn K (.ref f8) = true) (l8 : K.lookup f8 = some ⟨oc8, od8, .func (PySem.W.fnOf "turn_to_else" "Draft.turn_to_else" (defArgs (inClass (top 47) 8)) (defBody (inClass (top 47) 8)) (defScope (inClass (top 47) 8)) .none kV8 dc8 pm8 an8 cd8 ct8), sl8⟩) (c8 : PySem.W.codeIn K cd8 "Draft.turn_to_else" = true) (k8 : PySem.W.keepIn K (.ref f8) = true)
    (a9 : PySem.W.findIn K (.ref C) "end_body" = some (some (.ref f9))) (i9 : PySem.W.isFn K (.ref f9) = true) (l9 : K.lookup f9 = some ⟨oc9, od9, .func (PySem.W.fnOf "end_body" "Draft.end_body" (defArgs (inClass (top 47) 9)) (defBody (inClass (top 47) 9)) (defScope (inClass (top 47) 9)) .none kV9 dc9 pm9 an9 cd9 ct9), sl9⟩) (c9 : PySem.W.codeIn K cd9 "Draft.end_body" = true) (k9 : PySem.W.keepIn K (.ref f9) = true)
    (a10 : PySem.W.findIn K (.ref C) "look_at_end" = some (some (.ref f10))) (i10 : PySem.W.isFn K (.ref f10) = true) (l10 : K.lookup f10 = some ⟨oc10, od10, .func (PySem.W.fnOf "look_at_end" "Draft.look_at_end" (defArgs (inClass (top 47) 10)) (defBody (inClass (top 47) 10)) (defScope (inClass (top 47) 10)) .none kV10 dc10 pm10 an10 cd10 ct10), sl10⟩) (c10 : PySem.W.codeIn K cd10 "Draft.look_at_end" = true) (k10 : PySem.W.keepIn K (.ref f10) = true)
    (a11 : PySem.W.findIn K (.ref C) "look_at_calls" = some (some (.ref f11))) (i11 : PySem.W.isFn K (.ref f11) = true) (l11 : K.lookup f11 = some ⟨oc11, od11, .func (PySem.W.fnOf "look_at_calls" "Draft.look_at_calls" (defArgs (inClass (top 47) 11)) (defBody (inClass (top 47) 11)) (defScope (inClass (top 47) 11)) .none kV11 dc11 pm11 an11 cd11 ct11), sl11⟩) (c11 : PySem.W.codeIn K cd11 "Draft.look_at_calls" = true) (k11 : PySem.W.keepIn K (.ref f11) = true)
    (pg : PySem.W.plainGet K C Str.empty = true) (hd : PySem.W.hasDictIn K C = true) (po : PySem.W.plainOver K C = true) (sa : PySem.W.findIn K (.ref C) "__setattr__" = some (some (.builtin "object.__setattr__"))) (mk : PySem.W.makesIn K C = true) (kc : PySem.W.keepIn K (.ref C) = true) (n0 : PySem.W.findIn K (.ref C) "subs" = some none) (n1 : PySem.W.findIn K (.ref C) "body" = some none) (n2 : PySem.W.findIn K (.ref C) "unended" = some none) (n3 : PySem.W.findIn K (.ref C) "names_due" = some none) (n4 : PySem.W.findIn K (.ref C) "calls" = some none) :
    ∃ C f0 f1 f2 f3 f4 f5 f6 f7 f8 f9 f10 f11 d0 d1 d2 d3 d4 d5 d6 d7 d8 d9 d10 d11, C_Draft K C f0 f1 f2 f3 f4 f5 f6 f7 f8 f9 f10 f11 d0 d1 d2 d3 d4 d5 d6 d7 d8 d9 d10 d11 :=
  ⟨C, f0, f1, f2, f3, f4, f5, f6, f7, f8, f9, f10, f11, _, _, _, _, _, _, _, _, _, _, _, _, aC, ⟨pg, hd, po, sa⟩, fun_mk l0 c0 k0, ⟨mk, a0, i0, kc⟩, fun_mk l1 c1 k1, ⟨a1, i1, k1⟩, fun_mk l2 c2 k2, ⟨a2, i2, k2⟩, fun_mk l3 c3 k3, ⟨a3, i3, k3⟩, fun_mk l4 c4 k4, ⟨a4, i4, k4⟩, fun_mk l5 c5 k5, ⟨a5, i5, k5⟩, fun_mk l6 c6 k6, ⟨a6, i6, k6⟩, fun_mk l7 c7 k7, ⟨a7, i7, k7⟩, fun_mk l8 c8 k8, ⟨a8, i8, k8⟩, fun_mk l9 c9 k9, ⟨a9, i9, k9⟩, fun_mk l10 c10 k10, ⟨a10, i10, k10⟩, fun_mk l11 c11 k11, ⟨a11, i11, k11⟩, n0, n1, n2, n3, n4⟩
theorem byLen0 {P : List Value → Prop} (h : P []) : ∀ us : List Value, us.length = 0 → P us := fun us hl => by
  rw [List.length_eq_zero_iff.mp hl]
  exact h
theorem byLenS {n : Nat} {P : List Value → Prop} (h : ∀ (a : Value) (us : List Value), us.length = n → P (a :: us)) : ∀ us : List Value, us.length = n + 1 → P us := fun us hl => by
  cases us with
  | nil => cases hl
  | cons a r => exact h a r (Nat.succ.inj hl)
theorem byLen1 {P : List Value → Prop} (h : ∀ a0 : Value, P [a0]) : ∀ us : List Value, us.length = 1 → P us := byLenS fun a => byLen0 (P := fun us => P (a :: us)) (h a)
theorem byLen2 {P : List Value → Prop} (h : ∀ a0 a1 : Value, P [a0, a1]) : ∀ us : List Value, us.length = 2 → P us := byLenS fun a => byLen1 (P := fun us => P (a :: us)) (h a)
theorem byLen3 {P : List Value → Prop} (h : ∀ a0 a1 a2 : Value, P [a0, a1, a2]) : ∀ us : List Value, us.length = 3 → P us := byLenS fun a => byLen2 (P := fun us => P (a :: us)) (h a)
/-! ### NoRow and CarveError, as the text has them -/
noncomputable abbrev bmV : List Value := [.type "ValueError", .type "Exception", .type "BaseException", .type "object"]
structure C_Row (K : PySem.W.Frag) (x : Str) (CN CC : Addr) : Prop where
  ns : PySem.W.nsIn K mainGlobals x = some (some (.ref CN))
  nc : PySem.W.nsIn K mainGlobals "CarveError" = some (some (.ref CC))
  obj : ∃ nm q N bs hd sn sub ab col dd k0 k1 k2 k3 k5, K.lookup CN = some (excClassObj nm q CN N bs (.ref CC :: bmV) hd sn sub ab col dd k0 k1 k2 k3 k5 "ValueError.__new__") ∧ PySem.W.nsOkIn K N = true ∧ PySem.W.nsIn K N "__init__" = some none
  up : ∃ nm q N bs hd sn sub ab col dd k0 k1 k2 k3 k5, K.lookup CC = some (excClassObj nm q CC N bs bmV hd sn sub ab col dd k0 k1 k2 k3 k5 "ValueError.__new__") ∧ PySem.W.nsOkIn K N = true ∧ PySem.W.nsIn K N "__init__" = some none
  cobj : ∃ dd cd sl, K.lookup CC = some ⟨.type "type", dd, .cls cd, sl⟩
  exc : PySem.W.mroIn K CC (.type "BaseException") = some true
  sub : PySem.W.mroIn K CN (.ref CC) = some true
  ek : ExcK K CN
  val : PySem.W.subIn K (.ref CN) (.type "ValueError") = some true
  self : PySem.W.mroIn K CN (.ref CN) = some true
theorem okIn_of {K : PySem.W.Frag} {N : Addr} {nc : Value} {ndd : Option Addr} {nes : Array DictEntry} {nep : Nat} {nsl : Array (Option Value)} (o2 : K.lookup N = some ⟨nc, ndd, .dict nes nep, nsl⟩) (o3 : (nes.toList.all fun e => match e.key with | .str _ _ => true | _ => false) = true) : PySem.W.nsOkIn K N = true := by
  unfold PySem.W.nsOkIn
  rw [o2]
  dsimp only
  rw [← Array.all_toList]
  exact o3
theorem C_Row_mk {K : PySem.W.Frag} {CN CC N N' : Addr} {x nm q nm' q' : Str} {bs bs' : List Value} {hd hd' : Bool} {sn sn' : List Str} {sub sub' : List Value} {ab ab' : Bool} {col col' : Option Bool} {dd dd' : Option Addr} {k0 k1 k2 k3 k5 j0 j1 j2 j3 j5 : Option Value}
    {dd2 : Option Addr} {cd2 : ClassData} {sl2 : Array (Option Value)} {nc nc' : Value} {ndd ndd' : Option Addr} {nes nes' : Array DictEntry} {nep nep' : Nat} {nsl nsl' : Array (Option Value)}
    (a0 : PySem.W.nsIn K mainGlobals x = some (some (.ref CN))) (a1 : PySem.W.nsIn K mainGlobals "CarveError" = some (some (.ref CC)))
    (o1 : K.lookup CN = some (excClassObj nm q CN N bs (.ref CC :: bmV) hd sn sub ab col dd k0 k1 k2 k3 k5 "ValueError.__new__")) (o2 : K.lookup N = some ⟨nc, ndd, .dict nes nep, nsl⟩) (o3 : (nes.toList.all fun e => match e.key with | .str _ _ => true | _ => false) = true) (o4 : PySem.W.nsIn K N "__init__" = some none)
    (u1 : K.lookup CC = some (excClassObj nm' q' CC N' bs' bmV hd' sn' sub' ab' col' dd' j0 j1 j2 j3 j5 "ValueError.__new__")) (u2 : K.lookup N' = some ⟨nc', ndd', .dict nes' nep', nsl'⟩) (u3 : (nes'.toList.all fun e => match e.key with | .str _ _ => true | _ => false) = true) (u4 : PySem.W.nsIn K N' "__init__" = some none)
    (co : K.lookup CC = some ⟨.type "type", dd2, .cls cd2, sl2⟩) (ex : PySem.W.mroIn K CC (.type "BaseException") = some true) (su : PySem.W.mroIn K CN (.ref CC) = some true)
    (e1 : PySem.W.hasDictIn K CN = true) (e2 : PySem.W.findIn K (.ref CN) "__getattribute__" = some (some (.builtin "BaseException.__getattribute__"))) (e3 : PySem.W.findIn K (.ref CN) "__getattr__" = some none) (e4 : PySem.W.findIn K (.ref CN) "__class__" = some (some (.builtin "object.__class__")))
    (e5 : PySem.W.specialIn K (.builtin "object.__class__") "__get__" = some (some (.builtin "getset_descriptor.__get__"))) (e6 : PySem.W.takesIn K (.builtin "object.__class__") = some true) (e7 : PySem.W.mroIn K CN (.type "object") = some true) (e8 : PySem.W.mroIn K CN (.type "BaseException") = some true)
    (va : PySem.W.subIn K (.ref CN) (.type "ValueError") = some true) (se : PySem.W.mroIn K CN (.ref CN) = some true) : ∃ CN CC, C_Row K x CN CC :=
  ⟨CN, CC, a0, a1, ⟨nm, q, N, bs, hd, sn, sub, ab, col, dd, k0, k1, k2, k3, k5, o1, okIn_of o2 o3, o4⟩, ⟨nm', q', N', bs', hd', sn', sub', ab', col', dd', j0, j1, j2, j3, j5, u1, okIn_of u2 u3, u4⟩, ⟨dd2, cd2, sl2, co⟩, ex, su,
    ⟨by
      obtain ⟨cd, hc, _⟩ := PySem.W.any_some e1
      rw [hc]
      rfl, e2, e3, e4, e5, e6, e7, e8⟩, va, se⟩
theorem C_Row.own {K : PySem.W.Frag} {mg : Str → Option Value} {h : Heap} {x : Str} {CN CC : Addr} (S : C_Row K x CN CC) (X : K.In h) (G : h.Ns mainGlobals mg) : ∃ bm, PyProof.Rows.OwnCls x CN bm "ValueError.__new__" mg h ∧ PySem.ExcBaseFacts "ValueError" "ValueError.__new__" "ValueError.__init__" bm := by
  obtain ⟨nm, q, N, bs, hd, sn, sub, ab, col, dd, k0, k1, k2, k3, k5, o1, o2, o3⟩ := S.obj
  obtain ⟨nm', q', N', bs', hd', sn', sub', ab', col', dd', j0, j1, j2, j3, j5, u1, u2, u3⟩ := S.up
  refine ⟨bmV, ⟨PySem.W.mg_of X G S.ns, _, N, nm, q, bs, hd, sn, sub, ab, col, dd, k0, k1, k2, k3, k5, _, X _ _ o1, .of_isNs (PySem.W.isNs_of_in X o2), PySem.W.nsMap_none_of_in X o2 o3, ?_⟩, F.excBase_ValueError⟩
  exact .own (X _ _ u1) (.of_isNs (PySem.W.isNs_of_in X u2)) (PySem.W.nsMap_none_of_in X u2 u3) .base
theorem kit_val {K : PySem.W.Frag} {CN : Addr} (s : PySem.W.subIn K (.ref CN) (.type "ValueError") = some true) : PySem.W.kitOne K (.ref CN) (.type "ValueError") = some true := by
  have m : PySem.W.kitMeta "ValueError" = true := by decide +kernel
  unfold PySem.W.kitOne PySem.W.kitCls
  rw [show (Value.ref CN == Value.type "ValueError") = false from rfl, if_neg (by decide)]
  dsimp only
  rw [m, if_pos rfl]
  exact s
theorem kit_dis {K : PySem.W.Frag} {x : Str} {CN CC A : Addr} {as : List Addr} (S : C_Row K x CN CC) (d : PySem.W.hasDictIn K A = true) (t : PySem.W.typeIn K (.ref A) = some (.type "type")) (nd : as.Nodup) {i j l : Nat} (hi : as[i]? = some A) (hj : as[j]? = some CN) (hl : as[l]? = some CC) (hil : i ≠ l) : PySem.W.kitOne K (.ref CN) (.ref A) = some (decide (i = j)) := by
  have lt : i < as.length := (List.getElem?_eq_some_iff.mp hi).1
  have hc : A ≠ CC := fun z => hil ((List.getElem?_inj lt nd).mp (by rw [hi, hl, z]))
  by_cases h : i = j
  · subst h
    obtain rfl : A = CN := Option.some.inj (hi.symm.trans hj)
    unfold PySem.W.kitOne
    rw [if_pos (by simp), decide_eq_true rfl]
  · have hn : A ≠ CN := fun z => h ((List.getElem?_inj lt nd).mp (by rw [hi, hj, z]))
    rw [decide_eq_false h]
    obtain ⟨cd, hcd, _⟩ := PySem.W.any_some d
    obtain ⟨nm, q, N, bs, hd, sn, sub, ab, col, dd, k0, k1, k2, k3, k5, o1, o2, o3⟩ := S.obj
    unfold PySem.W.kitOne PySem.W.kitCls
    rw [beq_eq_false_iff_ne.mpr (fun z => hn (by injection z with z; exact z.symm)), if_neg (by decide)]
    dsimp only
    rw [hcd, t, if_pos (by simp)]
    show PySem.W.mroIn K CN (.ref A) = some false
    unfold PySem.W.mroIn PySem.W.clsIn
    rw [o1]
    show some ((Value.ref CN :: Value.ref CC :: bmV).contains (Value.ref A)) = some false
    simp [hn, hc, bmV]
theorem byEr {P : Er → Prop} (h0 : P .long) (h1 : P .row) (h2 : P .place) (h3 : P .deep) (h4 : P .twice) (h5 : P .opn) (h6 : P .sub) : ∀ e, P e := fun e => by
  cases e <;> assumption
noncomputable def ecOf (a0 a1 a2 a3 a4 a5 a6 : Addr) : Er → Addr
  | .long => a0
  | .row => a1
  | .place => a2
  | .deep => a3
  | .twice => a4
  | .opn => a5
  | .sub => a6
structure DisT (K : PySem.W.Frag) (a0 a1 a2 a3 a4 a5 a6 a7 a8 a9 a10 a11 c : Addr) : Prop where
  n0 : PySem.W.nsIn K mainGlobals "TooLong" = some (some (.ref a0))
  n1 : PySem.W.nsIn K mainGlobals "NoRow" = some (some (.ref a1))
  n2 : PySem.W.nsIn K mainGlobals "NoPlace" = some (some (.ref a2))
  n3 : PySem.W.nsIn K mainGlobals "TooDeep" = some (some (.ref a3))
  n4 : PySem.W.nsIn K mainGlobals "Twice" = some (some (.ref a4))
  n5 : PySem.W.nsIn K mainGlobals "Open" = some (some (.ref a5))
  n6 : PySem.W.nsIn K mainGlobals "NoSub" = some (some (.ref a6))
  n7 : PySem.W.nsIn K mainGlobals "NoForm" = some (some (.ref a7))
  n8 : PySem.W.nsIn K mainGlobals "NoBed" = some (some (.ref a8))
  n9 : PySem.W.nsIn K mainGlobals "NoMeasure" = some (some (.ref a9))
  n10 : PySem.W.nsIn K mainGlobals "NoCell" = some (some (.ref a10))
  n11 : PySem.W.nsIn K mainGlobals "NoCutter" = some (some (.ref a11))
  d0 : PySem.W.hasDictIn K a0 = true
  d1 : PySem.W.hasDictIn K a1 = true
  d2 : PySem.W.hasDictIn K a2 = true
  d3 : PySem.W.hasDictIn K a3 = true
  d4 : PySem.W.hasDictIn K a4 = true
  d5 : PySem.W.hasDictIn K a5 = true
  d6 : PySem.W.hasDictIn K a6 = true
  d7 : PySem.W.hasDictIn K a7 = true
  d8 : PySem.W.hasDictIn K a8 = true
  d9 : PySem.W.hasDictIn K a9 = true
  d10 : PySem.W.hasDictIn K a10 = true
  d11 : PySem.W.hasDictIn K a11 = true
  t0 : PySem.W.typeIn K (.ref a0) = some (.type "type")
  t1 : PySem.W.typeIn K (.ref a1) = some (.type "type")
  t2 : PySem.W.typeIn K (.ref a2) = some (.type "type")
  t3 : PySem.W.typeIn K (.ref a3) = some (.type "type")
  t4 : PySem.W.typeIn K (.ref a4) = some (.type "type")
  t5 : PySem.W.typeIn K (.ref a5) = some (.type "type")
  t6 : PySem.W.typeIn K (.ref a6) = some (.type "type")
  t7 : PySem.W.typeIn K (.ref a7) = some (.type "type")
  t8 : PySem.W.typeIn K (.ref a8) = some (.type "type")
  t9 : PySem.W.typeIn K (.ref a9) = some (.type "type")
  t10 : PySem.W.typeIn K (.ref a10) = some (.type "type")
  t11 : PySem.W.typeIn K (.ref a11) = some (.type "type")
  nc : PySem.W.nsIn K mainGlobals "CarveError" = some (some (.ref c))
  nd : [a0, a1, a2, a3, a4, a5, a6, a7, a8, a9, a10, a11, c].Nodup
theorem dis_mk {K : PySem.W.Frag} {a0 a1 a2 a3 a4 a5 a6 a7 a8 a9 a10 a11 c : Addr} (n0 : PySem.W.nsIn K mainGlobals "TooLong" = some (some (.ref a0))) (n1 : PySem.W.nsIn K mainGlobals "NoRow" = some (some (.ref a1))) (n2 : PySem.W.nsIn K mainGlobals "NoPlace" = some (some (.ref a2))) (n3 : PySem.W.nsIn K mainGlobals "TooDeep" = some (some (.ref a3))) (n4 : PySem.W.nsIn K mainGlobals "Twice" = some (some (.ref a4))) (n5 : PySem.W.nsIn K mainGlobals "Open" = some (some (.ref a5))) (n6 : PySem.W.nsIn K mainGlobals "NoSub" = some (some (.ref a6))) (n7 : PySem.W.nsIn K mainGlobals "NoForm" = some (some (.ref a7))) (n8 : PySem.W.nsIn K mainGlobals "NoBed" = some (some (.ref a8))) (n9 : PySem.W.nsIn K mainGlobals "NoMeasure" = some (some (.ref a9))) (n10 : PySem.W.nsIn K mainGlobals "NoCell" = some (some (.ref a10))) (n11 : PySem.W.nsIn K mainGlobals "NoCutter" = some (some (.ref a11))) (d0 : PySem.W.hasDictIn K a0 = true) (d1 : PySem.W.hasDictIn K a1 = true) (d2 : PySem.W.hasDictIn K a2 = true) (d3 : PySem.W.hasDictIn K a3 = true) (d4 : PySem.W.hasDictIn K a4 = true) (d5 : PySem.W.hasDictIn K a5 = true) (d6 : PySem.W.hasDictIn K a6 = true) (d7 : PySem.W.hasDictIn K a7 = true) (d8 : PySem.W.hasDictIn K a8 = true) (d9 : PySem.W.hasDictIn K a9 = true) (d10 : PySem.W.hasDictIn K a10 = true) (d11 : PySem.W.hasDictIn K a11 = true) (t0 : PySem.W.typeIn K (.ref a0) = some (.type "type")) (t1 : PySem.W.typeIn K (.ref a1) = some (.type "type")) (t2 : PySem.W.typeIn K (.ref a2) = some (.type "type")) (t3 : PySem.W.typeIn K (.ref a3) = some (.type "type")) (t4 : PySem.W.typeIn K (.ref a4) = some (.type "type")) (t5 : PySem.W.typeIn K (.ref a5) = some (.type "type")) (t6 : PySem.W.typeIn K (.ref a6) = some (.type "type")) (t7 : PySem.W.typeIn K (.ref a7) = some (.type "type")) (t8 : PySem.W.typeIn K (.ref a8) = some (.type "type")) (t9 : PySem.W.typeIn K (.ref a9) = some (.type "type")) (t10 : PySem.W.typeIn K (.ref a10) = some (.type "type")) (t11 : PySem.W.typeIn K (.ref a11) = some (.type "type")) (nc : PySem.W.nsIn K mainGlobals "CarveError" = some (some (.ref c))) (nd : [a0, a1, a2, a3, a4, a5, a6, a7, a8, a9, a10, a11, c].Nodup) : ∃ a0 a1 a2 a3 a4 a5 a6 a7 a8 a9 a10 a11 c, DisT K a0 a1 a2 a3 a4 a5 a6 a7 a8 a9 a10 a11 c := ⟨a0, a1, a2, a3, a4, a5, a6, a7, a8, a9, a10, a11, c, n0, n1, n2, n3, n4, n5, n6, n7, n8, n9, n10, n11, d0, d1, d2, d3, d4, d5, d6, d7, d8, d9, d10, d11, t0, t1, t2, t3, t4, t5, t6, t7, t8, t9, t10, t11, nc, nd⟩
structure FmD (P : Program) (w : World) (K : PySem.W.Frag) (a f1 f2 f3 f4 f5 f6 f7 f8 : Addr) : Prop where
  ns : PySem.W.nsIn K mainGlobals "FORMS" = some (some (.ref a))
  dk : DkK P w K a (formsK f1 f2 f3 f4 f5 f6 f7 f8)
  g1 : PySem.W.nsIn K mainGlobals "hold_row" = some (some (.ref f1))
  g2 : PySem.W.nsIn K mainGlobals "move_row" = some (some (.ref f2))
  g3 : PySem.W.nsIn K mainGlobals "let_row" = some (some (.ref f3))
  g4 : PySem.W.nsIn K mainGlobals "call_row" = some (some (.ref f4))
  g5 : PySem.W.nsIn K mainGlobals "times_row" = some (some (.ref f5))
  g6 : PySem.W.nsIn K mainGlobals "if_row" = some (some (.ref f6))
  g7 : PySem.W.nsIn K mainGlobals "bare_row" = some (some (.ref f7))
  g8 : PySem.W.nsIn K mainGlobals "sub_row" = some (some (.ref f8))
theorem fm_mk {P : Program} {w : World} {K : PySem.W.Frag} {a f1 f2 f3 f4 f5 f6 f7 f8 : Addr} {h0 h1 h2 h3 h4 h5 h6 h7 h8 h9 : Int} {t0 t1 t2 t3 t4 t5 t6 t7 t8 t9 : Tok} {ep : Nat} (n : PySem.W.nsIn K mainGlobals "FORMS" = some (some (.ref a))) (l : K.lookup a = some ⟨.type "dict", none, .dict #[⟨h0, .str "hold" t0, .ref f1⟩, ⟨h1, .str "fast" t1, .ref f2⟩, ⟨h2, .str "slow" t2, .ref f2⟩, ⟨h3, .str "let" t3, .ref f3⟩, ⟨h4, .str "call" t4, .ref f4⟩, ⟨h5, .str "times" t5, .ref f5⟩, ⟨h6, .str "if" t6, .ref f6⟩, ⟨h7, .str "else" t7, .ref f7⟩, ⟨h8, .str "end" t8, .ref f7⟩, ⟨h9, .str "sub" t9, .ref f8⟩] ep, #[]⟩) (e0 : h0 = hashStr w "hold") (e1 : h1 = hashStr w "fast") (e2 : h2 = hashStr w "slow") (e3 : h3 = hashStr w "let") (e4 : h4 = hashStr w "call") (e5 : h5 = hashStr w "times") (e6 : h6 = hashStr w "if") (e7 : h7 = hashStr w "else") (e8 : h8 = hashStr w "end") (e9 : h9 = hashStr w "sub") (hs : (a == sysModules) = false) (g1 : PySem.W.nsIn K mainGlobals "hold_row" = some (some (.ref f1))) (g2 : PySem.W.nsIn K mainGlobals "move_row" = some (some (.ref f2))) (g3 : PySem.W.nsIn K mainGlobals "let_row" = some (some (.ref f3))) (g4 : PySem.W.nsIn K mainGlobals "call_row" = some (some (.ref f4))) (g5 : PySem.W.nsIn K mainGlobals "times_row" = some (some (.ref f5))) (g6 : PySem.W.nsIn K mainGlobals "if_row" = some (some (.ref f6))) (g7 : PySem.W.nsIn K mainGlobals "bare_row" = some (some (.ref f7))) (g8 : PySem.W.nsIn K mainGlobals "sub_row" = some (some (.ref f8))) : ∃ a f1 f2 f3 f4 f5 f6 f7 f8, FmD P w K a f1 f2 f3 f4 f5 f6 f7 f8 := by
  subst e0 e1 e2 e3 e4 e5 e6 e7 e8 e9
  refine ⟨a, f1, f2, f3, f4, f5, f6, f7, f8, n, ⟨hs, (show 10 ≤ sizeLine by decide), [((Sum.inr "hold" : Key), .ref f1), ((Sum.inr "fast" : Key), .ref f2), ((Sum.inr "slow" : Key), .ref f2), ((Sum.inr "let" : Key), .ref f3), ((Sum.inr "call" : Key), .ref f4), ((Sum.inr "times" : Key), .ref f5), ((Sum.inr "if" : Key), .ref f6), ((Sum.inr "else" : Key), .ref f7), ((Sum.inr "end" : Key), .ref f7), ((Sum.inr "sub" : Key), .ref f8)], .cons ⟨rfl, rfl⟩ (.cons ⟨rfl, rfl⟩ (.cons ⟨rfl, rfl⟩ (.cons ⟨rfl, rfl⟩ (.cons ⟨rfl, rfl⟩ (.cons ⟨rfl, rfl⟩ (.cons ⟨rfl, rfl⟩ (.cons ⟨rfl, rfl⟩ (.cons ⟨rfl, rfl⟩ (.cons ⟨rfl, rfl⟩ (.nil)))))))))), fun h X => ?_⟩, g1, g2, g3, g4, g5, g6, g7, g8⟩
  refine ⟨_, #[⟨hashStr w "hold", .str "hold" t0, .ref f1⟩, ⟨hashStr w "fast", .str "fast" t1, .ref f2⟩, ⟨hashStr w "slow", .str "slow" t2, .ref f2⟩, ⟨hashStr w "let", .str "let" t3, .ref f3⟩, ⟨hashStr w "call", .str "call" t4, .ref f4⟩, ⟨hashStr w "times", .str "times" t5, .ref f5⟩, ⟨hashStr w "if", .str "if" t6, .ref f6⟩, ⟨hashStr w "else", .str "else" t7, .ref f7⟩, ⟨hashStr w "end", .str "end" t8, .ref f7⟩, ⟨hashStr w "sub", .str "sub" t9, .ref f8⟩], ep, X _ _ l, ⟨rfl, rfl, rfl⟩, rfl, fun e he => ?_, .cons (keyIs_str "hold" t0) rfl (.cons (keyIs_str "fast" t1) rfl (.cons (keyIs_str "slow" t2) rfl (.cons (keyIs_str "let" t3) rfl (.cons (keyIs_str "call" t4) rfl (.cons (keyIs_str "times" t5) rfl (.cons (keyIs_str "if" t6) rfl (.cons (keyIs_str "else" t7) rfl (.cons (keyIs_str "end" t8) rfl (.cons (keyIs_str "sub" t9) rfl (.nil)))))))))), (show List.Nodup [(Sum.inr "hold" : Key), (Sum.inr "fast" : Key), (Sum.inr "slow" : Key), (Sum.inr "let" : Key), (Sum.inr "call" : Key), (Sum.inr "times" : Key), (Sum.inr "if" : Key), (Sum.inr "else" : Key), (Sum.inr "end" : Key), (Sum.inr "sub" : Key)] by decide +kernel)⟩
  have he' : e ∈ [(⟨hashStr w "hold", .str "hold" t0, .ref f1⟩ : DictEntry), ⟨hashStr w "fast", .str "fast" t1, .ref f2⟩, ⟨hashStr w "slow", .str "slow" t2, .ref f2⟩, ⟨hashStr w "let", .str "let" t3, .ref f3⟩, ⟨hashStr w "call", .str "call" t4, .ref f4⟩, ⟨hashStr w "times", .str "times" t5, .ref f5⟩, ⟨hashStr w "if", .str "if" t6, .ref f6⟩, ⟨hashStr w "else", .str "else" t7, .ref f7⟩, ⟨hashStr w "end", .str "end" t8, .ref f7⟩, ⟨hashStr w "sub", .str "sub" t9, .ref f8⟩] := by simpa using he
  simp only [List.mem_cons, List.mem_nil_iff, or_false] at he'
  rcases he' with rfl | rfl | rfl | rfl | rfl | rfl | rfl | rfl | rfl | rfl
  · exact ⟨Sum.inr "hold", keyIs_str "hold" t0, rfl⟩
  · exact ⟨Sum.inr "fast", keyIs_str "fast" t1, rfl⟩
  · exact ⟨Sum.inr "slow", keyIs_str "slow" t2, rfl⟩
  · exact ⟨Sum.inr "let", keyIs_str "let" t3, rfl⟩
  · exact ⟨Sum.inr "call", keyIs_str "call" t4, rfl⟩
  · exact ⟨Sum.inr "times", keyIs_str "times" t5, rfl⟩
  · exact ⟨Sum.inr "if", keyIs_str "if" t6, rfl⟩
  · exact ⟨Sum.inr "else", keyIs_str "else" t7, rfl⟩
  · exact ⟨Sum.inr "end", keyIs_str "end" t8, rfl⟩
  · exact ⟨Sum.inr "sub", keyIs_str "sub" t9, rfl⟩
structure AxT (K : PySem.W.Frag) (a : Addr) : Prop where
  ns : PySem.W.nsIn K mainGlobals "AXES" = some (some (.ref a))
  sq : ∀ H : Hp, SqT K H a [.str "x", .str "y", .str "z"]
theorem ax_mk {K : PySem.W.Frag} {a : Addr} {dd : Option Addr} {n : Nat} {sl : Array (Option Value)} {t0 t1 t2 : Tok} (ns : PySem.W.nsIn K mainGlobals "AXES" = some (some (.ref a))) (l : K.lookup a = some ⟨.type "tuple", dd, .seq #[.str "x" t0, .str "y" t1, .str "z" t2] n, sl⟩) : ∃ a, AxT K a :=
  ⟨a, ns, fun H => .inr ⟨_, _, n, l, rfl, rfl, (by show 3 ≤ sizeLine; decide), .cons ⟨t0, rfl⟩ (.cons ⟨t1, rfl⟩ (.cons ⟨t2, rfl⟩ (.nil)))⟩⟩
structure CmpT (K : PySem.W.Frag) (a : Addr) : Prop where
  ns : PySem.W.nsIn K mainGlobals "COMPARISONS" = some (some (.ref a))
  sq : ∀ H : Hp, SqT K H a [.str "<", .str "="]
theorem cmp_mk {K : PySem.W.Frag} {a : Addr} {dd : Option Addr} {n : Nat} {sl : Array (Option Value)} {t0 t1 : Tok} (ns : PySem.W.nsIn K mainGlobals "COMPARISONS" = some (some (.ref a))) (l : K.lookup a = some ⟨.type "tuple", dd, .seq #[.str "<" t0, .str "=" t1] n, sl⟩) : ∃ a, CmpT K a :=
  ⟨a, ns, fun H => .inr ⟨_, _, n, l, rfl, rfl, (by show 2 ≤ sizeLine; decide), .cons ⟨t0, rfl⟩ (.cons ⟨t1, rfl⟩ (.nil))⟩⟩
/-! ### the text's constants -/
theorem int_mk {K : PySem.W.Frag} {x : Str} {i : Int} {t : Tok} (a : PySem.W.nsIn K mainGlobals x = some (some (.int i t))) : ∃ t, PySem.W.nsIn K mainGlobals x = some (some (.int i t)) := ⟨t, a⟩
theorem str_mk {K : PySem.W.Frag} {x z : Str} {t : Tok} (a : PySem.W.nsIn K mainGlobals x = some (some (.str z t))) : ∃ t, PySem.W.nsIn K mainGlobals x = some (some (.str z t)) := ⟨t, a⟩
structure KeptT (K : PySem.W.Frag) (a : Addr) : Prop where
  ns : PySem.W.nsIn K mainGlobals "KEPT_WORDS" = some (some (.ref a))
  sq : ∀ H : Hp, SqT K H a (keptW.map V.str)
theorem kept_mk {K : PySem.W.Frag} {a : Addr} {dd : Option Addr} {n : Nat} {sl : Array (Option Value)} {t0 t1 t2 t3 t4 t5 t6 t7 t8 t9 t10 t11 t12 t13 : Tok} (ns : PySem.W.nsIn K mainGlobals "KEPT_WORDS" = some (some (.ref a))) (l : K.lookup a = some ⟨.type "tuple", dd, .seq #[.str "hold" t0, .str "fast" t1, .str "slow" t2, .str "by" t3, .str "let" t4, .str "times" t5, .str "if" t6, .str "else" t7, .str "end" t8, .str "sub" t9, .str "call" t10, .str "x" t11, .str "y" t12, .str "z" t13] n, sl⟩) : ∃ a, KeptT K a :=
  ⟨a, ns, fun H => .inr ⟨_, _, n, l, rfl, rfl, (by show 14 ≤ sizeLine; decide), .cons ⟨t0, rfl⟩ (.cons ⟨t1, rfl⟩ (.cons ⟨t2, rfl⟩ (.cons ⟨t3, rfl⟩ (.cons ⟨t4, rfl⟩ (.cons ⟨t5, rfl⟩ (.cons ⟨t6, rfl⟩ (.cons ⟨t7, rfl⟩ (.cons ⟨t8, rfl⟩ (.cons ⟨t9, rfl⟩ (.cons ⟨t10, rfl⟩ (.cons ⟨t11, rfl⟩ (.cons ⟨t12, rfl⟩ (.cons ⟨t13, rfl⟩ (.nil))))))))))))))⟩⟩
structure NoneT (K : PySem.W.Frag) : Prop where
  len : PySem.W.nsIn K mainGlobals "len" = some none
  max : PySem.W.nsIn K mainGlobals "max" = some none
  min : PySem.W.nsIn K mainGlobals "min" = some none
  range : PySem.W.nsIn K mainGlobals "range" = some none
  isin : PySem.W.nsIn K mainGlobals "isinstance" = some none
  abs : PySem.W.nsIn K mainGlobals "abs" = some none
  tuple : PySem.W.nsIn K mainGlobals "tuple" = some none
  list : PySem.W.nsIn K mainGlobals "list" = some none
  bool : PySem.W.nsIn K mainGlobals "bool" = some none
  int : PySem.W.nsIn K mainGlobals "int" = some none
  all : PySem.W.nsIn K mainGlobals "all" = some none
  str : PySem.W.nsIn K mainGlobals "str" = some none
  val : PySem.W.nsIn K mainGlobals "ValueError" = some none
  set : PySem.W.nsIn K mainGlobals "set" = some none
theorem FnT.fnB {P : Program} {w : World} {K : PySem.W.Frag} {mg : Str → Option Value} {base h : Heap} {x : Str} {st : Stmt} {f : Addr} {fd : FuncData} {k : Nat} {ps : List Str} {sp : Sp} (T : FnT K x st f fd) (X : K.In h) (G : h.Ns mainGlobals mg) (ok : FnOk P w K mg base (CX1 P w) k f fd ps sp) (bi : Binds K fd ps []) : Fn P w K mg base x k ps sp :=
  ⟨f, fd, ok, PySem.W.mg_of X G T.ns, T.fn.kp, bi⟩
theorem all {P : Program} {w : World} {K : PySem.W.Frag} {mg : Str → Option Value} {h : Heap} {fa : Addr} (X : K.In h) (G : h.Ns mainGlobals mg) (hfa : mg "law" = some (.ref fa)) (N : NoneT K)
    (i_MOST_LETTERS : ∃ t, PySem.W.nsIn K mainGlobals "MOST_LETTERS" = some (some (.int 8 t)))
    (i_MOST_FIGURES : ∃ t, PySem.W.nsIn K mainGlobals "MOST_FIGURES" = some (some (.int 6 t)))
    (i_MOST_SIGNS : ∃ t, PySem.W.nsIn K mainGlobals "MOST_SIGNS" = some (some (.int 60 t)))
    (i_MOST_BRACKETS : ∃ t, PySem.W.nsIn K mainGlobals "MOST_BRACKETS" = some (some (.int 5 t)))
    (i_MOST_NAMES : ∃ t, PySem.W.nsIn K mainGlobals "MOST_NAMES" = some (some (.int 4 t)))
    (i_MOST_ROWS : ∃ t, PySem.W.nsIn K mainGlobals "MOST_ROWS" = some (some (.int 120 t)))
    (i_MOST_BODIES : ∃ t, PySem.W.nsIn K mainGlobals "MOST_BODIES" = some (some (.int 6 t)))
    (i_SMALL_LETTERS : ∃ t, PySem.W.nsIn K mainGlobals "SMALL_LETTERS" = some (some (.str smallT t)))
    (i_FIGURES : ∃ t, PySem.W.nsIn K mainGlobals "FIGURES" = some (some (.str figT t)))
    (i_JOINTS : ∃ t, PySem.W.nsIn K mainGlobals "JOINTS" = some (some (.str jointT t)))
    (KW : ∃ a, KeptT K a) (AX : ∃ a, AxT K a) (CM : ∃ a, CmpT K a) (DI : ∃ a0 a1 a2 a3 a4 a5 a6 a7 a8 a9 a10 a11 c, DisT K a0 a1 a2 a3 a4 a5 a6 a7 a8 a9 a10 a11 c) (FM : ∃ a f1 f2 f3 f4 f5 f6 f7 f8, FmD P w K a f1 f2 f3 f4 f5 f6 f7 f8)
    (S_TooLong : ∃ CN CC, C_Row K "TooLong" CN CC)
    (S_NoRow : ∃ CN CC, C_Row K "NoRow" CN CC)
    (S_NoPlace : ∃ CN CC, C_Row K "NoPlace" CN CC)
    (S_TooDeep : ∃ CN CC, C_Row K "TooDeep" CN CC)
    (S_Twice : ∃ CN CC, C_Row K "Twice" CN CC)
    (S_Open : ∃ CN CC, C_Row K "Open" CN CC)
    (S_NoSub : ∃ CN CC, C_Row K "NoSub" CN CC)
    (T_is_written_in : ∃ f fd, FnT K "is_written_in" (top 23) f fd) (T_is_name : ∃ f fd, FnT K "is_name" (top 24) f fd) (T_is_number : ∃ f fd, FnT K "is_number" (top 25) f fd) (T_expression : ∃ f fd, FnT K "expression" (top 27) f fd) (T_look_at_length : ∃ f fd, FnT K "look_at_length" (top 32) f fd) (T_name_of : ∃ f fd, FnT K "name_of" (top 33) f fd) (T_hold_row : ∃ f fd, FnT K "hold_row" (top 34) f fd) (T_move_row : ∃ f fd, FnT K "move_row" (top 35) f fd) (T_let_row : ∃ f fd, FnT K "let_row" (top 36) f fd) (T_call_row : ∃ f fd, FnT K "call_row" (top 37) f fd) (T_times_row : ∃ f fd, FnT K "times_row" (top 38) f fd) (T_if_row : ∃ f fd, FnT K "if_row" (top 39) f fd) (T_bare_row : ∃ f fd, FnT K "bare_row" (top 40) f fd) (T_sub_row : ∃ f fd, FnT K "sub_row" (top 41) f fd) (T_row_of : ∃ f fd, FnT K "row_of" (top 43) f fd) (T_read : ∃ f fd, FnT K "read" (top 48) f fd) (T__law_cell_at : ∃ f fd, FnT K "_law_cell_at" (top 50) f fd) (T__law_stir : ∃ f fd, FnT K "_law_stir" (top 51) f fd) (T__law_bad : ∃ f fd, FnT K "_law_bad" (top 52) f fd) (T__law_any_row : ∃ f fd, FnT K "_law_any_row" (top 53) f fd) (T__law_judged : ∃ f fd, FnT K "_law_judged" (top 54) f fd) (T__law_refusal : ∃ f fd, FnT K "_law_refusal" (top 55) f fd) (T_law : ∃ f fd, FnT K "law" (top 56) f fd)
    (T_Scan : ∃ C f0 f1 f2 f3 f4 f5 f6 f7 d0 d1 d2 d3 d4 d5 d6 d7, C_Scan K C f0 f1 f2 f3 f4 f5 f6 f7 d0 d1 d2 d3 d4 d5 d6 d7) (T_Draft : ∃ C f0 f1 f2 f3 f4 f5 f6 f7 f8 f9 f10 f11 d0 d1 d2 d3 d4 d5 d6 d7 d8 d9 d10 d11, C_Draft K C f0 f1 f2 f3 f4 f5 f6 f7 f8 f9 f10 f11 d0 d1 d2 d3 d4 d5 d6 d7 d8 d9 d10 d11) :
    ∃ fd : FuncData, (∀ (s : Shared) (v : Value), BindsTo s fd ⟨[v], []⟩ [("script", v)]) ∧ ∀ base : Heap, K.In base → base.Ns mainGlobals mg → FnOk P w K mg base (CX1 P w) 32 fa fd ["script"] (spLaw K) := by
  obtain ⟨t_MOST_LETTERS, i_MOST_LETTERS⟩ := i_MOST_LETTERS
  obtain ⟨t_MOST_FIGURES, i_MOST_FIGURES⟩ := i_MOST_FIGURES
  obtain ⟨t_MOST_SIGNS, i_MOST_SIGNS⟩ := i_MOST_SIGNS
  obtain ⟨t_MOST_BRACKETS, i_MOST_BRACKETS⟩ := i_MOST_BRACKETS
  obtain ⟨t_MOST_NAMES, i_MOST_NAMES⟩ := i_MOST_NAMES
  obtain ⟨t_MOST_ROWS, i_MOST_ROWS⟩ := i_MOST_ROWS
  obtain ⟨t_MOST_BODIES, i_MOST_BODIES⟩ := i_MOST_BODIES
  obtain ⟨t_SMALL_LETTERS, i_SMALL_LETTERS⟩ := i_SMALL_LETTERS
  obtain ⟨t_FIGURES, i_FIGURES⟩ := i_FIGURES
  obtain ⟨t_JOINTS, i_JOINTS⟩ := i_JOINTS
  obtain ⟨aK, KW⟩ := KW
  obtain ⟨aX, AX⟩ := AX
  obtain ⟨aM, CM⟩ := CM
  obtain ⟨a0, a1, a2, a3, a4, a5, a6, a7, a8, a9, a10, a11, c, DI⟩ := DI
  obtain ⟨aF, g1, g2, g3, g4, g5, g6, g7, g8, FM⟩ := FM
  obtain ⟨x0, y0, S_TooLong⟩ := S_TooLong
  have e := S_TooLong.ns.symm.trans DI.n0
  cases e
  have e := S_TooLong.nc.symm.trans DI.nc
  cases e
  obtain ⟨x1, y1, S_NoRow⟩ := S_NoRow
  have e := S_NoRow.ns.symm.trans DI.n1
  cases e
  have e := S_NoRow.nc.symm.trans DI.nc
  cases e
  obtain ⟨x2, y2, S_NoPlace⟩ := S_NoPlace
  have e := S_NoPlace.ns.symm.trans DI.n2
  cases e
  have e := S_NoPlace.nc.symm.trans DI.nc
  cases e
  obtain ⟨x3, y3, S_TooDeep⟩ := S_TooDeep
  have e := S_TooDeep.ns.symm.trans DI.n3
  cases e
  have e := S_TooDeep.nc.symm.trans DI.nc
  cases e
  obtain ⟨x4, y4, S_Twice⟩ := S_Twice
  have e := S_Twice.ns.symm.trans DI.n4
  cases e
  have e := S_Twice.nc.symm.trans DI.nc
  cases e
  obtain ⟨x5, y5, S_Open⟩ := S_Open
  have e := S_Open.ns.symm.trans DI.n5
  cases e
  have e := S_Open.nc.symm.trans DI.nc
  cases e
  obtain ⟨x6, y6, S_NoSub⟩ := S_NoSub
  have e := S_NoSub.ns.symm.trans DI.n6
  cases e
  have e := S_NoSub.nc.symm.trans DI.nc
  cases e
  obtain ⟨f_is_written_in, d_is_written_in, T_is_written_in⟩ := T_is_written_in
  obtain ⟨f_is_name, d_is_name, T_is_name⟩ := T_is_name
  obtain ⟨f_is_number, d_is_number, T_is_number⟩ := T_is_number
  obtain ⟨f_expression, d_expression, T_expression⟩ := T_expression
  obtain ⟨f_look_at_length, d_look_at_length, T_look_at_length⟩ := T_look_at_length
  obtain ⟨f_name_of, d_name_of, T_name_of⟩ := T_name_of
  obtain ⟨f_hold_row, d_hold_row, T_hold_row⟩ := T_hold_row
  obtain ⟨f_move_row, d_move_row, T_move_row⟩ := T_move_row
  obtain ⟨f_let_row, d_let_row, T_let_row⟩ := T_let_row
  obtain ⟨f_call_row, d_call_row, T_call_row⟩ := T_call_row
  obtain ⟨f_times_row, d_times_row, T_times_row⟩ := T_times_row
  obtain ⟨f_if_row, d_if_row, T_if_row⟩ := T_if_row
  obtain ⟨f_bare_row, d_bare_row, T_bare_row⟩ := T_bare_row
  obtain ⟨f_sub_row, d_sub_row, T_sub_row⟩ := T_sub_row
  obtain ⟨f_row_of, d_row_of, T_row_of⟩ := T_row_of
  obtain ⟨f_read, d_read, T_read⟩ := T_read
  obtain ⟨f__law_cell_at, d__law_cell_at, T__law_cell_at⟩ := T__law_cell_at
  obtain ⟨f__law_stir, d__law_stir, T__law_stir⟩ := T__law_stir
  obtain ⟨f__law_bad, d__law_bad, T__law_bad⟩ := T__law_bad
  obtain ⟨f__law_any_row, d__law_any_row, T__law_any_row⟩ := T__law_any_row
  obtain ⟨f__law_judged, d__law_judged, T__law_judged⟩ := T__law_judged
  obtain ⟨f__law_refusal, d__law_refusal, T__law_refusal⟩ := T__law_refusal
  obtain ⟨f_law, d_law, T_law⟩ := T_law
  obtain ⟨C, v0, v1, v2, v3, v4, v5, v6, v7, e0, e1, e2, e3, e4, e5, e6, e7, SC⟩ := T_Scan
  obtain ⟨D, p0, p1, p2, p3, p4, p5, p6, p7, p8, p9, p10, p11, q0, q1, q2, q3, q4, q5, q6, q7, q8, q9, q10, q11, DC⟩ := T_Draft
  have e := FM.g1.symm.trans T_hold_row.ns
  cases e
  have e := FM.g2.symm.trans T_move_row.ns
  cases e
  have e := FM.g3.symm.trans T_let_row.ns
  cases e
  have e := FM.g4.symm.trans T_call_row.ns
  cases e
  have e := FM.g5.symm.trans T_times_row.ns
  cases e
  have e := FM.g6.symm.trans T_if_row.ns
  cases e
  have e := FM.g7.symm.trans T_bare_row.ns
  cases e
  have e := FM.g8.symm.trans T_sub_row.ns
  cases e
  have e := hfa.symm.trans (PySem.W.mg_of X G T_law.ns)
  cases e
  refine ⟨d_law, ?_, fun base XB GB => ?_⟩
  · obtain ⟨oc, od, kV, doc, pm, an, cdv, ct, osl, rfl, lk, hcd⟩ := T_law.fn.ex
    exact fun s v => .of_eq rfl
  have L : LawT mg := ⟨PySem.W.mg_none_of X G N.len, PySem.W.mg_none_of X G N.max, PySem.W.mg_none_of X G N.min, PySem.W.mg_none_of X G N.range, PySem.W.mg_none_of X G N.isin, PySem.W.mg_none_of X G N.abs, PySem.W.mg_none_of X G N.tuple, PySem.W.mg_none_of X G N.list, PySem.W.mg_none_of X G N.bool, PySem.W.mg_none_of X G N.int⟩
  have NSt := PySem.W.mg_none_of X G N.str
  have WD : WdT K mg := ⟨PySem.W.mg_none_of X G N.all, ⟨t_SMALL_LETTERS, PySem.W.mg_of X G i_SMALL_LETTERS⟩, ⟨t_FIGURES, PySem.W.mg_of X G i_FIGURES⟩, ⟨t_JOINTS, PySem.W.mg_of X G i_JOINTS⟩, ⟨aK, PySem.W.mg_of X G KW.ns, KW.sq⟩, ⟨t_MOST_LETTERS, PySem.W.mg_of X G i_MOST_LETTERS⟩, ⟨t_MOST_FIGURES, PySem.W.mg_of X G i_MOST_FIGURES⟩, ⟨t_MOST_SIGNS, PySem.W.mg_of X G i_MOST_SIGNS⟩, ⟨t_MOST_BRACKETS, PySem.W.mg_of X G i_MOST_BRACKETS⟩⟩
  have RT : RowT K mg base a1 := ⟨S_NoRow.own XB GB⟩
  have EC : EcT mg base (ecOf a0 a1 a2 a3 a4 a5 a6) := ⟨byEr (S_TooLong.own XB GB) (S_NoRow.own XB GB) (S_NoPlace.own XB GB) (S_TooDeep.own XB GB) (S_Twice.own XB GB) (S_Open.own XB GB) (S_NoSub.own XB GB)⟩
  have RF : RfT K mg (ecOf a0 a1 a2 a3 a4 a5 a6) c := { cat := ⟨PySem.W.mg_of X G DI.nc, S_NoRow.cobj, S_NoRow.exc⟩, sub := byEr (S_TooLong.sub) (S_NoRow.sub) (S_NoPlace.sub) (S_TooDeep.sub) (S_Twice.sub) (S_Open.sub) (S_NoSub.sub), ek := byEr (S_TooLong.ek) (S_NoRow.ek) (S_NoPlace.ek) (S_TooDeep.ek) (S_Twice.ek) (S_Open.ek) (S_NoSub.ek), val := byEr (kit_val S_TooLong.val) (kit_val S_NoRow.val) (kit_val S_NoPlace.val) (kit_val S_TooDeep.val) (kit_val S_Twice.val) (kit_val S_Open.val) (kit_val S_NoSub.val), vg := PySem.W.mg_none_of X G N.val, o0 := ⟨a0, PySem.W.mg_of X G DI.n0, byEr (kit_dis (i := 0) (j := 0) (l := 12) S_TooLong DI.d0 DI.t0 DI.nd rfl rfl rfl (by decide)) (kit_dis (i := 0) (j := 1) (l := 12) S_NoRow DI.d0 DI.t0 DI.nd rfl rfl rfl (by decide)) (kit_dis (i := 0) (j := 2) (l := 12) S_NoPlace DI.d0 DI.t0 DI.nd rfl rfl rfl (by decide)) (kit_dis (i := 0) (j := 3) (l := 12) S_TooDeep DI.d0 DI.t0 DI.nd rfl rfl rfl (by decide)) (kit_dis (i := 0) (j := 4) (l := 12) S_Twice DI.d0 DI.t0 DI.nd rfl rfl rfl (by decide)) (kit_dis (i := 0) (j := 5) (l := 12) S_Open DI.d0 DI.t0 DI.nd rfl rfl rfl (by decide)) (kit_dis (i := 0) (j := 6) (l := 12) S_NoSub DI.d0 DI.t0 DI.nd rfl rfl rfl (by decide))⟩, o1 := ⟨a1, PySem.W.mg_of X G DI.n1, byEr (kit_dis (i := 1) (j := 0) (l := 12) S_TooLong DI.d1 DI.t1 DI.nd rfl rfl rfl (by decide)) (kit_dis (i := 1) (j := 1) (l := 12) S_NoRow DI.d1 DI.t1 DI.nd rfl rfl rfl (by decide)) (kit_dis (i := 1) (j := 2) (l := 12) S_NoPlace DI.d1 DI.t1 DI.nd rfl rfl rfl (by decide)) (kit_dis (i := 1) (j := 3) (l := 12) S_TooDeep DI.d1 DI.t1 DI.nd rfl rfl rfl (by decide)) (kit_dis (i := 1) (j := 4) (l := 12) S_Twice DI.d1 DI.t1 DI.nd rfl rfl rfl (by decide)) (kit_dis (i := 1) (j := 5) (l := 12) S_Open DI.d1 DI.t1 DI.nd rfl rfl rfl (by decide)) (kit_dis (i := 1) (j := 6) (l := 12) S_NoSub DI.d1 DI.t1 DI.nd rfl rfl rfl (by decide))⟩, o2 := ⟨a2, PySem.W.mg_of X G DI.n2, byEr (kit_dis (i := 2) (j := 0) (l := 12) S_TooLong DI.d2 DI.t2 DI.nd rfl rfl rfl (by decide)) (kit_dis (i := 2) (j := 1) (l := 12) S_NoRow DI.d2 DI.t2 DI.nd rfl rfl rfl (by decide)) (kit_dis (i := 2) (j := 2) (l := 12) S_NoPlace DI.d2 DI.t2 DI.nd rfl rfl rfl (by decide)) (kit_dis (i := 2) (j := 3) (l := 12) S_TooDeep DI.d2 DI.t2 DI.nd rfl rfl rfl (by decide)) (kit_dis (i := 2) (j := 4) (l := 12) S_Twice DI.d2 DI.t2 DI.nd rfl rfl rfl (by decide)) (kit_dis (i := 2) (j := 5) (l := 12) S_Open DI.d2 DI.t2 DI.nd rfl rfl rfl (by decide)) (kit_dis (i := 2) (j := 6) (l := 12) S_NoSub DI.d2 DI.t2 DI.nd rfl rfl rfl (by decide))⟩, o3 := ⟨a3, PySem.W.mg_of X G DI.n3, byEr (kit_dis (i := 3) (j := 0) (l := 12) S_TooLong DI.d3 DI.t3 DI.nd rfl rfl rfl (by decide)) (kit_dis (i := 3) (j := 1) (l := 12) S_NoRow DI.d3 DI.t3 DI.nd rfl rfl rfl (by decide)) (kit_dis (i := 3) (j := 2) (l := 12) S_NoPlace DI.d3 DI.t3 DI.nd rfl rfl rfl (by decide)) (kit_dis (i := 3) (j := 3) (l := 12) S_TooDeep DI.d3 DI.t3 DI.nd rfl rfl rfl (by decide)) (kit_dis (i := 3) (j := 4) (l := 12) S_Twice DI.d3 DI.t3 DI.nd rfl rfl rfl (by decide)) (kit_dis (i := 3) (j := 5) (l := 12) S_Open DI.d3 DI.t3 DI.nd rfl rfl rfl (by decide)) (kit_dis (i := 3) (j := 6) (l := 12) S_NoSub DI.d3 DI.t3 DI.nd rfl rfl rfl (by decide))⟩, o4 := ⟨a4, PySem.W.mg_of X G DI.n4, byEr (kit_dis (i := 4) (j := 0) (l := 12) S_TooLong DI.d4 DI.t4 DI.nd rfl rfl rfl (by decide)) (kit_dis (i := 4) (j := 1) (l := 12) S_NoRow DI.d4 DI.t4 DI.nd rfl rfl rfl (by decide)) (kit_dis (i := 4) (j := 2) (l := 12) S_NoPlace DI.d4 DI.t4 DI.nd rfl rfl rfl (by decide)) (kit_dis (i := 4) (j := 3) (l := 12) S_TooDeep DI.d4 DI.t4 DI.nd rfl rfl rfl (by decide)) (kit_dis (i := 4) (j := 4) (l := 12) S_Twice DI.d4 DI.t4 DI.nd rfl rfl rfl (by decide)) (kit_dis (i := 4) (j := 5) (l := 12) S_Open DI.d4 DI.t4 DI.nd rfl rfl rfl (by decide)) (kit_dis (i := 4) (j := 6) (l := 12) S_NoSub DI.d4 DI.t4 DI.nd rfl rfl rfl (by decide))⟩, o5 := ⟨a5, PySem.W.mg_of X G DI.n5, byEr (kit_dis (i := 5) (j := 0) (l := 12) S_TooLong DI.d5 DI.t5 DI.nd rfl rfl rfl (by decide)) (kit_dis (i := 5) (j := 1) (l := 12) S_NoRow DI.d5 DI.t5 DI.nd rfl rfl rfl (by decide)) (kit_dis (i := 5) (j := 2) (l := 12) S_NoPlace DI.d5 DI.t5 DI.nd rfl rfl rfl (by decide)) (kit_dis (i := 5) (j := 3) (l := 12) S_TooDeep DI.d5 DI.t5 DI.nd rfl rfl rfl (by decide)) (kit_dis (i := 5) (j := 4) (l := 12) S_Twice DI.d5 DI.t5 DI.nd rfl rfl rfl (by decide)) (kit_dis (i := 5) (j := 5) (l := 12) S_Open DI.d5 DI.t5 DI.nd rfl rfl rfl (by decide)) (kit_dis (i := 5) (j := 6) (l := 12) S_NoSub DI.d5 DI.t5 DI.nd rfl rfl rfl (by decide))⟩, o6 := ⟨a6, PySem.W.mg_of X G DI.n6, byEr (kit_dis (i := 6) (j := 0) (l := 12) S_TooLong DI.d6 DI.t6 DI.nd rfl rfl rfl (by decide)) (kit_dis (i := 6) (j := 1) (l := 12) S_NoRow DI.d6 DI.t6 DI.nd rfl rfl rfl (by decide)) (kit_dis (i := 6) (j := 2) (l := 12) S_NoPlace DI.d6 DI.t6 DI.nd rfl rfl rfl (by decide)) (kit_dis (i := 6) (j := 3) (l := 12) S_TooDeep DI.d6 DI.t6 DI.nd rfl rfl rfl (by decide)) (kit_dis (i := 6) (j := 4) (l := 12) S_Twice DI.d6 DI.t6 DI.nd rfl rfl rfl (by decide)) (kit_dis (i := 6) (j := 5) (l := 12) S_Open DI.d6 DI.t6 DI.nd rfl rfl rfl (by decide)) (kit_dis (i := 6) (j := 6) (l := 12) S_NoSub DI.d6 DI.t6 DI.nd rfl rfl rfl (by decide))⟩, o7 := ⟨a7, PySem.W.mg_of X G DI.n7, byEr (kit_dis (i := 7) (j := 0) (l := 12) S_TooLong DI.d7 DI.t7 DI.nd rfl rfl rfl (by decide)) (kit_dis (i := 7) (j := 1) (l := 12) S_NoRow DI.d7 DI.t7 DI.nd rfl rfl rfl (by decide)) (kit_dis (i := 7) (j := 2) (l := 12) S_NoPlace DI.d7 DI.t7 DI.nd rfl rfl rfl (by decide)) (kit_dis (i := 7) (j := 3) (l := 12) S_TooDeep DI.d7 DI.t7 DI.nd rfl rfl rfl (by decide)) (kit_dis (i := 7) (j := 4) (l := 12) S_Twice DI.d7 DI.t7 DI.nd rfl rfl rfl (by decide)) (kit_dis (i := 7) (j := 5) (l := 12) S_Open DI.d7 DI.t7 DI.nd rfl rfl rfl (by decide)) (kit_dis (i := 7) (j := 6) (l := 12) S_NoSub DI.d7 DI.t7 DI.nd rfl rfl rfl (by decide))⟩, o8 := ⟨a8, PySem.W.mg_of X G DI.n8, byEr (kit_dis (i := 8) (j := 0) (l := 12) S_TooLong DI.d8 DI.t8 DI.nd rfl rfl rfl (by decide)) (kit_dis (i := 8) (j := 1) (l := 12) S_NoRow DI.d8 DI.t8 DI.nd rfl rfl rfl (by decide)) (kit_dis (i := 8) (j := 2) (l := 12) S_NoPlace DI.d8 DI.t8 DI.nd rfl rfl rfl (by decide)) (kit_dis (i := 8) (j := 3) (l := 12) S_TooDeep DI.d8 DI.t8 DI.nd rfl rfl rfl (by decide)) (kit_dis (i := 8) (j := 4) (l := 12) S_Twice DI.d8 DI.t8 DI.nd rfl rfl rfl (by decide)) (kit_dis (i := 8) (j := 5) (l := 12) S_Open DI.d8 DI.t8 DI.nd rfl rfl rfl (by decide)) (kit_dis (i := 8) (j := 6) (l := 12) S_NoSub DI.d8 DI.t8 DI.nd rfl rfl rfl (by decide))⟩, o9 := ⟨a9, PySem.W.mg_of X G DI.n9, byEr (kit_dis (i := 9) (j := 0) (l := 12) S_TooLong DI.d9 DI.t9 DI.nd rfl rfl rfl (by decide)) (kit_dis (i := 9) (j := 1) (l := 12) S_NoRow DI.d9 DI.t9 DI.nd rfl rfl rfl (by decide)) (kit_dis (i := 9) (j := 2) (l := 12) S_NoPlace DI.d9 DI.t9 DI.nd rfl rfl rfl (by decide)) (kit_dis (i := 9) (j := 3) (l := 12) S_TooDeep DI.d9 DI.t9 DI.nd rfl rfl rfl (by decide)) (kit_dis (i := 9) (j := 4) (l := 12) S_Twice DI.d9 DI.t9 DI.nd rfl rfl rfl (by decide)) (kit_dis (i := 9) (j := 5) (l := 12) S_Open DI.d9 DI.t9 DI.nd rfl rfl rfl (by decide)) (kit_dis (i := 9) (j := 6) (l := 12) S_NoSub DI.d9 DI.t9 DI.nd rfl rfl rfl (by decide))⟩, o10 := ⟨a10, PySem.W.mg_of X G DI.n10, byEr (kit_dis (i := 10) (j := 0) (l := 12) S_TooLong DI.d10 DI.t10 DI.nd rfl rfl rfl (by decide)) (kit_dis (i := 10) (j := 1) (l := 12) S_NoRow DI.d10 DI.t10 DI.nd rfl rfl rfl (by decide)) (kit_dis (i := 10) (j := 2) (l := 12) S_NoPlace DI.d10 DI.t10 DI.nd rfl rfl rfl (by decide)) (kit_dis (i := 10) (j := 3) (l := 12) S_TooDeep DI.d10 DI.t10 DI.nd rfl rfl rfl (by decide)) (kit_dis (i := 10) (j := 4) (l := 12) S_Twice DI.d10 DI.t10 DI.nd rfl rfl rfl (by decide)) (kit_dis (i := 10) (j := 5) (l := 12) S_Open DI.d10 DI.t10 DI.nd rfl rfl rfl (by decide)) (kit_dis (i := 10) (j := 6) (l := 12) S_NoSub DI.d10 DI.t10 DI.nd rfl rfl rfl (by decide))⟩, o11 := ⟨a11, PySem.W.mg_of X G DI.n11, byEr (kit_dis (i := 11) (j := 0) (l := 12) S_TooLong DI.d11 DI.t11 DI.nd rfl rfl rfl (by decide)) (kit_dis (i := 11) (j := 1) (l := 12) S_NoRow DI.d11 DI.t11 DI.nd rfl rfl rfl (by decide)) (kit_dis (i := 11) (j := 2) (l := 12) S_NoPlace DI.d11 DI.t11 DI.nd rfl rfl rfl (by decide)) (kit_dis (i := 11) (j := 3) (l := 12) S_TooDeep DI.d11 DI.t11 DI.nd rfl rfl rfl (by decide)) (kit_dis (i := 11) (j := 4) (l := 12) S_Twice DI.d11 DI.t11 DI.nd rfl rfl rfl (by decide)) (kit_dis (i := 11) (j := 5) (l := 12) S_Open DI.d11 DI.t11 DI.nd rfl rfl rfl (by decide)) (kit_dis (i := 11) (j := 6) (l := 12) S_NoSub DI.d11 DI.t11 DI.nd rfl rfl rfl (by decide))⟩ }
  have WR : RwT K mg := ⟨⟨aX, PySem.W.mg_of X G AX.ns, AX.sq⟩, ⟨aM, PySem.W.mg_of X G CM.ns, CM.sq⟩, ⟨t_MOST_NAMES, PySem.W.mg_of X G i_MOST_NAMES⟩, ⟨t_MOST_ROWS, PySem.W.mg_of X G i_MOST_ROWS⟩, ⟨t_MOST_BODIES, PySem.W.mg_of X G i_MOST_BODIES⟩⟩
  have DT : DrT K D := ⟨DC.cl, DC.n_subs, DC.n_body, DC.n_unended, DC.n_names_due, DC.n_calls⟩
  have ST : ScT K C := ⟨SC.cl, SC.n_word, SC.n_at, SC.n_brackets⟩
  have FWr := T_is_written_in.fnB (P := P) (w := w) (base := base) X G (ok_written WD T_is_written_in.fn) (T_is_written_in.fn.binds fun _ _ _ _ _ _ => byLen2 fun _ _ => rfl)
  have FNm := T_is_name.fnB (P := P) (w := w) (base := base) X G (ok_name L WD FWr T_is_name.fn) (T_is_name.fn.binds fun _ _ _ _ _ _ => byLen1 fun _ => rfl)
  have FNu := T_is_number.fnB (P := P) (w := w) (base := base) X G (ok_number L WD FWr T_is_number.fn) (T_is_number.fn.binds fun _ _ _ _ _ _ => byLen1 fun _ => rfl)
  have MI : Mc P w K mg base "Scan" C 1 ["self", "word"] (spScanI C) := ⟨v0, e0, ok_scanI ST SC.fn___init__, SC.mks, PySem.W.mg_of X G SC.ns, (SC.fn___init__.binds fun _ _ _ _ _ _ => byLen2 fun _ _ => rfl)⟩
  have MA : Mt P w K mg base C "sign_ahead" 1 ["self"] (spAhead C) := ⟨v1, e1, ok_ahead ST SC.fn_sign_ahead, SC.mt_sign_ahead, SC.cl, (SC.fn_sign_ahead.binds fun _ _ _ _ _ _ => byLen1 fun _ => rfl)⟩
  have MS : Mt P w K mg base C "take_sign" 2 ["self"] (spTakeS C) := ⟨v2, e2, ok_takeS ST MA SC.fn_take_sign, SC.mt_take_sign, SC.cl, (SC.fn_take_sign.binds fun _ _ _ _ _ _ => byLen1 fun _ => rfl)⟩
  have MP : Mt P w K mg base C "take_piece" 2 ["self"] (spPiece C) := ⟨v7, e7, ok_piece L WD ST MA SC.fn_take_piece, SC.mt_take_piece, SC.cl, (SC.fn_take_piece.binds fun _ _ _ _ _ _ => byLen1 fun _ => rfl)⟩
  have mB : MeT K C "take_brackets" "Scan.take_brackets" _ _ _ := ⟨SC.fn_take_brackets, SC.mt_take_brackets, (SC.fn_take_brackets.binds fun _ _ _ _ _ _ => byLen1 fun _ => rfl)⟩
  have mF : MeT K C "take_factor" "Scan.take_factor" _ _ _ := ⟨SC.fn_take_factor, SC.mt_take_factor, (SC.fn_take_factor.binds fun _ _ _ _ _ _ => byLen1 fun _ => rfl)⟩
  have mS : MeT K C "take_factors" "Scan.take_factors" _ _ _ := ⟨SC.fn_take_factors, SC.mt_take_factors, (SC.fn_take_factors.binds fun _ _ _ _ _ _ => byLen1 fun _ => rfl)⟩
  have mT : MeT K C "take_terms" "Scan.take_terms" _ _ _ := ⟨SC.fn_take_terms, SC.mt_take_terms, (SC.fn_take_terms.binds fun _ _ _ _ _ _ => byLen1 fun _ => rfl)⟩
  have MT := ok_par (P := P) (w := w) (base := base) L WD RT ST MA MS MP FNu FNm mB mF mS mT 5
  have FEx := T_expression.fnB (P := P) (w := w) (base := base) X G (ok_expr L WD RT ST MI MT T_expression.fn) (T_expression.fn.binds fun _ _ _ _ _ _ => byLen1 fun _ => rfl)
  have FLn := T_look_at_length.fnB (P := P) (w := w) (base := base) X G (ok_len L RT T_look_at_length.fn) (T_look_at_length.fn.binds fun _ _ _ _ _ _ => byLen3 fun _ _ _ => rfl)
  have FNo := T_name_of.fnB (P := P) (w := w) (base := base) X G (ok_nameOf RT FNm T_name_of.fn) (T_name_of.fn.binds fun _ _ _ _ _ _ => byLen1 fun _ => rfl)
  have V1 : FnV P w K mg base 28 _ ["words"] (spRow K a1 holdF) := ⟨d_hold_row, ok_hold FLn FEx T_hold_row.fn, T_hold_row.fn.kp, (T_hold_row.fn.binds fun _ _ _ _ _ _ => byLen1 fun _ => rfl)⟩
  have V2 : FnV P w K mg base 28 _ ["words"] (spRow K a1 moveF) := ⟨d_move_row, ok_move L RT WR FLn FEx T_move_row.fn, T_move_row.fn.kp, (T_move_row.fn.binds fun _ _ _ _ _ _ => byLen1 fun _ => rfl)⟩
  have V3 : FnV P w K mg base 28 _ ["words"] (spRow K a1 (neF .plain)) := ⟨d_let_row, ok_let FLn FNo FEx T_let_row.fn, T_let_row.fn.kp, (T_let_row.fn.binds fun _ _ _ _ _ _ => byLen1 fun _ => rfl)⟩
  have V4 : FnV P w K mg base 28 _ ["words"] (spRow K a1 callF) := ⟨d_call_row, ok_call WR FLn FNo FEx T_call_row.fn, T_call_row.fn.kp, (T_call_row.fn.binds fun _ _ _ _ _ _ => byLen1 fun _ => rfl)⟩
  have V5 : FnV P w K mg base 28 _ ["words"] (spRow K a1 (neF .times)) := ⟨d_times_row, ok_times FLn FNo FEx T_times_row.fn, T_times_row.fn.kp, (T_times_row.fn.binds fun _ _ _ _ _ _ => byLen1 fun _ => rfl)⟩
  have V6 : FnV P w K mg base 28 _ ["words"] (spRow K a1 ifF') := ⟨d_if_row, ok_if RT WR FLn FEx T_if_row.fn, T_if_row.fn.kp, (T_if_row.fn.binds fun _ _ _ _ _ _ => byLen1 fun _ => rfl)⟩
  have V7 : FnV P w K mg base 28 _ ["words"] (spBare K a1) := ⟨d_bare_row, ok_bare FLn T_bare_row.fn, T_bare_row.fn.kp, (T_bare_row.fn.binds fun _ _ _ _ _ _ => byLen1 fun _ => rfl)⟩
  have V8 : FnV P w K mg base 28 _ ["words"] (spRow K a1 subF) := ⟨d_sub_row, ok_sub WR FLn FNo T_sub_row.fn, T_sub_row.fn.kp, (T_sub_row.fn.binds fun _ _ _ _ _ _ => byLen1 fun _ => rfl)⟩
  have FRo := T_row_of.fnB (P := P) (w := w) (base := base) X G (ok_rowOf RT ⟨PySem.W.mg_of X G FM.ns, FM.dk, V1, V2, V3, V4, V5, V6, V7, V8⟩ T_row_of.fn) (T_row_of.fn.binds fun _ _ _ _ _ _ => byLen1 fun _ => rfl)
  have DI0 : Mc P w K mg base "Draft" D 1 ["self"] (spInit D) := ⟨p0, q0, ok_init DT DC.fn___init__, DC.mks, PySem.W.mg_of X G DC.ns, (DC.fn___init__.binds fun _ _ _ _ _ _ => byLen1 fun _ => rfl)⟩
  have M2 : Mt P w K mg base D "innermost" 1 ["self"] (spInner D) := ⟨p2, q2, ok_inner DT DC.fn_innermost, DC.mt_innermost, DC.cl, (DC.fn_innermost.binds fun _ _ _ _ _ _ => byLen1 fun _ => rfl)⟩
  have M4 : Mt P w K mg base D "look_at_depth" 1 ["self"] (spDepth D (ecOf a0 a1 a2 a3 a4 a5 a6)) := ⟨p4, q4, ok_depth L WR DT EC DC.fn_look_at_depth, DC.mt_look_at_depth, DC.cl, (DC.fn_look_at_depth.binds fun _ _ _ _ _ _ => byLen1 fun _ => rfl)⟩
  have M3 : Mt P w K mg base D "put_plain" 2 ["self", "row"] (spPlain D) := ⟨p3, q3, ok_plain DT M2 DC.fn_put_plain, DC.mt_put_plain, DC.cl, (DC.fn_put_plain.binds fun _ _ _ _ _ _ => byLen2 fun _ _ => rfl)⟩
  have M5 : Mt P w K mg base D "begin_sub" 1 ["self", "name", "names"] (spBS D (ecOf a0 a1 a2 a3 a4 a5 a6)) := ⟨p5, q5, ok_bs L (PySem.W.mg_none_of X G N.set) DT EC DC.fn_begin_sub, DC.mt_begin_sub, DC.cl, (DC.fn_begin_sub.binds fun _ _ _ _ _ _ => byLen3 fun _ _ _ => rfl)⟩
  have M6 : Mt P w K mg base D "begin_times" 2 ["self", "row"] (spBody D (ecOf a0 a1 a2 a3 a4 a5 a6) .times) := ⟨p6, q6, ok_bt DT M2 M4 DC.fn_begin_times, DC.mt_begin_times, DC.cl, (DC.fn_begin_times.binds fun _ _ _ _ _ _ => byLen2 fun _ _ => rfl)⟩
  have M7 : Mt P w K mg base D "begin_if" 2 ["self", "row"] (spBody D (ecOf a0 a1 a2 a3 a4 a5 a6) .iff) := ⟨p7, q7, ok_bi DT M2 M4 DC.fn_begin_if, DC.mt_begin_if, DC.cl, (DC.fn_begin_if.binds fun _ _ _ _ _ _ => byLen2 fun _ _ => rfl)⟩
  have M8 : Mt P w K mg base D "turn_to_else" 1 ["self"] (spBr D (ecOf a0 a1 a2 a3 a4 a5 a6) .els) := ⟨p8, q8, ok_el DT EC DC.fn_turn_to_else, DC.mt_turn_to_else, DC.cl, (DC.fn_turn_to_else.binds fun _ _ _ _ _ _ => byLen1 fun _ => rfl)⟩
  have M9 : Mt P w K mg base D "end_body" 1 ["self"] (spBr D (ecOf a0 a1 a2 a3 a4 a5 a6) .fin) := ⟨p9, q9, ok_en DT EC DC.fn_end_body, DC.mt_end_body, DC.cl, (DC.fn_end_body.binds fun _ _ _ _ _ _ => byLen1 fun _ => rfl)⟩
  have M10 : Mt P w K mg base D "look_at_end" 1 ["self"] (spEnd D (ecOf a0 a1 a2 a3 a4 a5 a6)) := ⟨p10, q10, ok_le DT EC DC.fn_look_at_end, DC.mt_look_at_end, DC.cl, (DC.fn_look_at_end.binds fun _ _ _ _ _ _ => byLen1 fun _ => rfl)⟩
  have M11 : Mt P w K mg base D "look_at_calls" 1 ["self"] (spLC D (ecOf a0 a1 a2 a3 a4 a5 a6)) := ⟨p11, q11, ok_lc L DT EC DC.fn_look_at_calls, DC.mt_look_at_calls, DC.cl, (DC.fn_look_at_calls.binds fun _ _ _ _ _ _ => byLen1 fun _ => rfl)⟩
  have M1 : Mt P w K mg base D "put" 3 ["self", "row"] (spPut D (ecOf a0 a1 a2 a3 a4 a5 a6)) := ⟨p1, q1, ok_put DT M5 M6 M7 M8 M9 M3 DC.fn_put, DC.mt_put, DC.cl, (DC.fn_put.binds fun _ _ _ _ _ _ => byLen2 fun _ _ => rfl)⟩
  have FRd := T_read.fnB (P := P) (w := w) (base := base) X G (ok_read L WR DT EC DI0 M1 M10 M11 FRo T_read.fn) (T_read.fn.binds fun _ _ _ _ _ _ => byLen1 fun _ => rfl)
  have F0 := T__law_cell_at.fnB (P := P) (w := w) (base := base) X G (ok_at L T__law_cell_at.fn) (T__law_cell_at.fn.binds fun _ _ _ _ _ _ => byLen2 fun _ _ => rfl)
  have F1 := T__law_stir.fnB (P := P) (w := w) (base := base) X G (ok_stir T__law_stir.fn) (T__law_stir.fn.binds fun _ _ _ _ _ _ => byLen2 fun _ _ => rfl)
  have F6 := T__law_bad.fnB (P := P) (w := w) (base := base) X G (ok_bad L F1 T__law_bad.fn) (T__law_bad.fn.binds fun _ _ _ _ _ _ => byLen1 fun _ => rfl)
  have F2 := T__law_any_row.fnB (P := P) (w := w) (base := base) X G (ok_any F1 T__law_any_row.fn) (T__law_any_row.fn.binds fun _ _ _ _ _ _ => byLen1 fun _ => rfl)
  have F3 := T__law_judged.fnB (P := P) (w := w) (base := base) X G (ok_judged L T__law_judged.fn) (T__law_judged.fn.binds fun _ _ _ _ _ _ => byLen1 fun _ => rfl)
  have F4 := T__law_refusal.fnB (P := P) (w := w) (base := base) X G (ok_refusal L RF FRd T__law_refusal.fn) (T__law_refusal.fn.binds fun _ _ _ _ _ _ => byLen1 fun _ => rfl)
  exact ok_law L F0 F1 F6 F2 F3 F4 T_law.fn
theorem walk {l : PySem.W.OpenLaw} {q : Program} {loose : List Str} {XP : (Str → Option Value) → Heap → Prop} {YP : World → Heap → Prop} {d : DefRec} {K : Params → PySem.W.Frag} (hn : l.most = some 63) (hdf : d.params.defaults = [])
    (hY : ∀ (w : World) (h : Heap), YP w h → (K w.params).In h)
    (F : ∀ (w : World) (mg : Str → Option Value) (fa : Addr) (h : Heap), (K w.params).In h → h.Ns mainGlobals mg → mg d.name = some (.ref fa) →
      ∃ fd : FuncData, (∀ (s : Shared) (u : Value), BindsTo s fd ⟨[u], []⟩ [("script", u)]) ∧ ∀ base : Heap, (K w.params).In base → base.Ns mainGlobals mg → FnOk l.prog w (K w.params) mg base (CX1 l.prog w) 32 fa fd ["script"] (spLaw (K w.params))) :
    PySem.W.WalkO q loose XP YP l.row.toRowW d [] (fun f vs => PySem.call f vs) :=
  L2.walk_of (n := 63) (k := 32) (x := "script") (CX := fun w => CX1 l.prog w) (sp := fun w => spLaw (K w.params)) hn (by decide) hdf ⟨rfl, by decide, by decide⟩ hY F (fun _ _ a ns hl _ hS => ⟨a, ns, rfl, hS, hl, fun _ => rfl⟩) fun _ _ _ _ _ z => by
    obtain ⟨_, _, _, _, _, _, _, _, _, _, _, _, _, _, _, ff⟩ := z
    exact ff
end Car
open PySem PySem.W PyProof.Rows
set_option maxRecDepth 100000 in
set_option maxHeartbeats 0 in
theorem PySem.Challenge.cw_carvebed_k07_faults_together_holds : PySem.Challenge.rw_carvebed_k07_faults_together.Holds := by
  w_on; o_law
  refine @PySem.W.holds_open _ Car.hQ Car.hLoose (fun s => PySem.W.xlAt Car.hQ [] s && PySem.W.recOk [] s) (PySem.W.XL Car.hQ []) _
    (PySem.W.Hook.obs Car.hH) (PySem.W.Hook.val Car.hH) (PySem.W.Hook.says Car.hH) _ _ 9718
    Car.hLeft (PySem.W.Hook.of Car.hH) (PySem.W.Hook.keeps Car.hH)
    (fun s e => PySem.W.xl_of s (Bool.and_eq_true_iff.mp e).1) PySem.W.XL.keeps (by rfl) (by rfl) (by rfl)
    (fun s e => PySem.W.recFacts_of (Bool.and_eq_true_iff.mp e).2) (by rfl) (by assumption)
    (by decide +kernel) ⟨rfl, rfl, rfl, rfl, rfl, by decide +kernel⟩ ?hw ?hc
  (case hw => w_witness2)
  refine Car.walk (l := PySem.Challenge.rw_carvebed_k07_faults_together) rfl rfl (K := Car.KK) (fun w h Y => PySem.W.kIn_of (K := Car.KK) (as := Car.KKas) (e := fun _ => rfl) Y) ?F
  case F =>
    k_fill
    intro w mg fa h KX G hmg
    have T_is_written_in : ∃ f fd, Car.FnT (L2.KOf KX) "is_written_in" (Car.top 23) f fd := by
      dsimp only [L2.KOf]
      refine' Car.fnT_mk ?a ?l ?c ?k
      (case a => k_is); (case l => k_is); (case c => k_is); (case k => k_is)
    have T_is_name : ∃ f fd, Car.FnT (L2.KOf KX) "is_name" (Car.top 24) f fd := by
      dsimp only [L2.KOf]
      refine' Car.fnT_mk ?a ?l ?c ?k
      (case a => k_is); (case l => k_is); (case c => k_is); (case k => k_is)
    have T_is_number : ∃ f fd, Car.FnT (L2.KOf KX) "is_number" (Car.top 25) f fd := by
      dsimp only [L2.KOf]
      refine' Car.fnT_mk ?a ?l ?c ?k
      (case a => k_is); (case l => k_is); (case c => k_is); (case k => k_is)
    have T_Scan : ∃ C f0 f1 f2 f3 f4 f5 f6 f7 d0 d1 d2 d3 d4 d5 d6 d7, Car.C_Scan (L2.KOf KX) C f0 f1 f2 f3 f4 f5 f6 f7 d0 d1 d2 d3 d4 d5 d6 d7 := by
      dsimp only [L2.KOf]
      refine' Car.C_Scan_mk ?aC ?a0 ?i0 ?l0 ?c0 ?k0 ?a1 ?i1 ?l1 ?c1 ?k1 ?a2 ?i2 ?l2 ?c2 ?k2 ?a3 ?i3 ?l3 ?c3 ?k3 ?a4 ?i4 ?l4 ?c4 ?k4 ?a5 ?i5 ?l5 ?c5 ?k5 ?a6 ?i6 ?l6 ?c6 ?k6 ?a7 ?i7 ?l7 ?c7 ?k7 ?pg ?hd ?po ?sa ?mk ?kc ?n0 ?n1 ?n2
      (case aC => k_is); (case a0 => k_is); (case i0 => k_is); (case l0 => k_is); (case c0 => k_is); (case k0 => k_is); (case a1 => k_is); (case i1 => k_is); (case l1 => k_is); (case c1 => k_is); (case k1 => k_is); (case a2 => k_is); (case i2 => k_is); (case l2 => k_is); (case c2 => k_is); (case k2 => k_is); (case a3 => k_is); (case i3 => k_is); (case l3 => k_is); (case c3 => k_is); (case k3 => k_is); (case a4 => k_is); (case i4 => k_is); (case l4 => k_is); (case c4 => k_is); (case k4 => k_is); (case a5 => k_is); (case i5 => k_is); (case l5 => k_is); (case c5 => k_is); (case k5 => k_is); (case a6 => k_is); (case i6 => k_is); (case l6 => k_is); (case c6 => k_is); (case k6 => k_is); (case a7 => k_is); (case i7 => k_is); (case l7 => k_is); (case c7 => k_is); (case k7 => k_is); (case pg => k_is); (case hd => k_is); (case po => k_is); (case sa => k_is); (case mk => k_is); (case kc => k_is); (case n0 => k_is); (case n1 => k_is); (case n2 => k_is)
    have T_expression : ∃ f fd, Car.FnT (L2.KOf KX) "expression" (Car.top 27) f fd := by
      dsimp only [L2.KOf]
      refine' Car.fnT_mk ?a ?l ?c ?k
      (case a => k_is); (case l => k_is); (case c => k_is); (case k => k_is)
    have T_look_at_length : ∃ f fd, Car.FnT (L2.KOf KX) "look_at_length" (Car.top 32) f fd := by
      dsimp only [L2.KOf]
      refine' Car.fnT_mk ?a ?l ?c ?k
      (case a => k_is); (case l => k_is); (case c => k_is); (case k => k_is)
    have T_name_of : ∃ f fd, Car.FnT (L2.KOf KX) "name_of" (Car.top 33) f fd := by
      dsimp only [L2.KOf]
      refine' Car.fnT_mk ?a ?l ?c ?k
      (case a => k_is); (case l => k_is); (case c => k_is); (case k => k_is)
    have T_hold_row : ∃ f fd, Car.FnT (L2.KOf KX) "hold_row" (Car.top 34) f fd := by
      dsimp only [L2.KOf]
      refine' Car.fnT_mk ?a ?l ?c ?k
      (case a => k_is); (case l => k_is); (case c => k_is); (case k => k_is)
    have T_move_row : ∃ f fd, Car.FnT (L2.KOf KX) "move_row" (Car.top 35) f fd := by
      dsimp only [L2.KOf]
      refine' Car.fnT_mk ?a ?l ?c ?k
      (case a => k_is); (case l => k_is); (case c => k_is); (case k => k_is)
    have T_let_row : ∃ f fd, Car.FnT (L2.KOf KX) "let_row" (Car.top 36) f fd := by
      dsimp only [L2.KOf]
      refine' Car.fnT_mk ?a ?l ?c ?k
      (case a => k_is); (case l => k_is); (case c => k_is); (case k => k_is)
    have T_call_row : ∃ f fd, Car.FnT (L2.KOf KX) "call_row" (Car.top 37) f fd := by
      dsimp only [L2.KOf]
      refine' Car.fnT_mk ?a ?l ?c ?k
      (case a => k_is); (case l => k_is); (case c => k_is); (case k => k_is)
    have T_times_row : ∃ f fd, Car.FnT (L2.KOf KX) "times_row" (Car.top 38) f fd := by
      dsimp only [L2.KOf]
      refine' Car.fnT_mk ?a ?l ?c ?k
      (case a => k_is); (case l => k_is); (case c => k_is); (case k => k_is)
    have T_if_row : ∃ f fd, Car.FnT (L2.KOf KX) "if_row" (Car.top 39) f fd := by
      dsimp only [L2.KOf]
      refine' Car.fnT_mk ?a ?l ?c ?k
      (case a => k_is); (case l => k_is); (case c => k_is); (case k => k_is)
    have T_bare_row : ∃ f fd, Car.FnT (L2.KOf KX) "bare_row" (Car.top 40) f fd := by
      dsimp only [L2.KOf]
      refine' Car.fnT_mk ?a ?l ?c ?k
      (case a => k_is); (case l => k_is); (case c => k_is); (case k => k_is)
    have T_sub_row : ∃ f fd, Car.FnT (L2.KOf KX) "sub_row" (Car.top 41) f fd := by
      dsimp only [L2.KOf]
      refine' Car.fnT_mk ?a ?l ?c ?k
      (case a => k_is); (case l => k_is); (case c => k_is); (case k => k_is)
    have T_row_of : ∃ f fd, Car.FnT (L2.KOf KX) "row_of" (Car.top 43) f fd := by
      dsimp only [L2.KOf]
      refine' Car.fnT_mk ?a ?l ?c ?k
      (case a => k_is); (case l => k_is); (case c => k_is); (case k => k_is)
    have T_Draft : ∃ C f0 f1 f2 f3 f4 f5 f6 f7 f8 f9 f10 f11 d0 d1 d2 d3 d4 d5 d6 d7 d8 d9 d10 d11, Car.C_Draft (L2.KOf KX) C f0 f1 f2 f3 f4 f5 f6 f7 f8 f9 f10 f11 d0 d1 d2 d3 d4 d5 d6 d7 d8 d9 d10 d11 := by
      dsimp only [L2.KOf]
      refine' Car.C_Draft_mk ?aC ?a0 ?i0 ?l0 ?c0 ?k0 ?a1 ?i1 ?l1 ?c1 ?k1 ?a2 ?i2 ?l2 ?c2 ?k2 ?a3 ?i3 ?l3 ?c3 ?k3 ?a4 ?i4 ?l4 ?c4 ?k4 ?a5 ?i5 ?l5 ?c5 ?k5 ?a6 ?i6 ?l6 ?c6 ?k6 ?a7 ?i7 ?l7 ?c7 ?k7 ?a8 ?i8 ?l8 ?c8 ?k8 ?a9 ?i9 ?l9 ?c9 ?k9 ?a10 ?i10 ?l10 ?c10 ?k10 ?a11 ?i11 ?l11 ?c11 ?k11 ?pg ?hd ?po ?sa ?mk ?kc ?n0 ?n1 ?n2 ?n3 ?n4
      (case aC => k_is); (case a0 => k_is); (case i0 => k_is); (case l0 => k_is); (case c0 => k_is); (case k0 => k_is); (case a1 => k_is); (case i1 => k_is); (case l1 => k_is); (case c1 => k_is); (case k1 => k_is); (case a2 => k_is); (case i2 => k_is); (case l2 => k_is); (case c2 => k_is); (case k2 => k_is); (case a3 => k_is); (case i3 => k_is); (case l3 => k_is); (case c3 => k_is); (case k3 => k_is); (case a4 => k_is); (case i4 => k_is); (case l4 => k_is); (case c4 => k_is); (case k4 => k_is); (case a5 => k_is); (case i5 => k_is); (case l5 => k_is); (case c5 => k_is); (case k5 => k_is); (case a6 => k_is); (case i6 => k_is); (case l6 => k_is); (case c6 => k_is); (case k6 => k_is); (case a7 => k_is); (case i7 => k_is); (case l7 => k_is); (case c7 => k_is); (case k7 => k_is); (case a8 => k_is); (case i8 => k_is); (case l8 => k_is); (case c8 => k_is); (case k8 => k_is); (case a9 => k_is); (case i9 => k_is); (case l9 => k_is); (case c9 => k_is); (case k9 => k_is); (case a10 => k_is); (case i10 => k_is); (case l10 => k_is); (case c10 => k_is); (case k10 => k_is); (case a11 => k_is); (case i11 => k_is); (case l11 => k_is); (case c11 => k_is); (case k11 => k_is); (case pg => k_is); (case hd => k_is); (case po => k_is); (case sa => k_is); (case mk => k_is); (case kc => k_is); (case n0 => k_is); (case n1 => k_is); (case n2 => k_is); (case n3 => k_is); (case n4 => k_is)
    have T_read : ∃ f fd, Car.FnT (L2.KOf KX) "read" (Car.top 48) f fd := by
      dsimp only [L2.KOf]
      refine' Car.fnT_mk ?a ?l ?c ?k
      (case a => k_is); (case l => k_is); (case c => k_is); (case k => k_is)
    have T__law_cell_at : ∃ f fd, Car.FnT (L2.KOf KX) "_law_cell_at" (Car.top 50) f fd := by
      dsimp only [L2.KOf]
      refine' Car.fnT_mk ?a ?l ?c ?k
      (case a => k_is); (case l => k_is); (case c => k_is); (case k => k_is)
    have T__law_stir : ∃ f fd, Car.FnT (L2.KOf KX) "_law_stir" (Car.top 51) f fd := by
      dsimp only [L2.KOf]
      refine' Car.fnT_mk ?a ?l ?c ?k
      (case a => k_is); (case l => k_is); (case c => k_is); (case k => k_is)
    have T__law_bad : ∃ f fd, Car.FnT (L2.KOf KX) "_law_bad" (Car.top 52) f fd := by
      dsimp only [L2.KOf]
      refine' Car.fnT_mk ?a ?l ?c ?k
      (case a => k_is); (case l => k_is); (case c => k_is); (case k => k_is)
    have T__law_any_row : ∃ f fd, Car.FnT (L2.KOf KX) "_law_any_row" (Car.top 53) f fd := by
      dsimp only [L2.KOf]
      refine' Car.fnT_mk ?a ?l ?c ?k
      (case a => k_is); (case l => k_is); (case c => k_is); (case k => k_is)
    have T__law_judged : ∃ f fd, Car.FnT (L2.KOf KX) "_law_judged" (Car.top 54) f fd := by
      dsimp only [L2.KOf]
      refine' Car.fnT_mk ?a ?l ?c ?k
      (case a => k_is); (case l => k_is); (case c => k_is); (case k => k_is)
    have T__law_refusal : ∃ f fd, Car.FnT (L2.KOf KX) "_law_refusal" (Car.top 55) f fd := by
      dsimp only [L2.KOf]
      refine' Car.fnT_mk ?a ?l ?c ?k
      (case a => k_is); (case l => k_is); (case c => k_is); (case k => k_is)
    have T_law : ∃ f fd, Car.FnT (L2.KOf KX) "law" (Car.top 56) f fd := by
      dsimp only [L2.KOf]
      refine' Car.fnT_mk ?a ?l ?c ?k
      (case a => k_is); (case l => k_is); (case c => k_is); (case k => k_is)
    have N : Car.NoneT (L2.KOf KX) := by
      dsimp only [L2.KOf]
      refine' ⟨?n0, ?n1, ?n2, ?n3, ?n4, ?n5, ?n6, ?n7, ?n8, ?n9, ?n10, ?n11, ?n12, ?n13⟩
      (case n0 => k_is); (case n1 => k_is); (case n2 => k_is); (case n3 => k_is); (case n4 => k_is); (case n5 => k_is); (case n6 => k_is); (case n7 => k_is); (case n8 => k_is); (case n9 => k_is); (case n10 => k_is); (case n11 => k_is); (case n12 => k_is); (case n13 => k_is)
    have i_MOST_LETTERS : ∃ t, PySem.W.nsIn (L2.KOf KX) mainGlobals "MOST_LETTERS" = some (some (.int 8 t)) := by
      dsimp only [L2.KOf]
      refine' Car.int_mk ?a
      (case a => k_is)
    have i_MOST_FIGURES : ∃ t, PySem.W.nsIn (L2.KOf KX) mainGlobals "MOST_FIGURES" = some (some (.int 6 t)) := by
      dsimp only [L2.KOf]
      refine' Car.int_mk ?a
      (case a => k_is)
    have i_MOST_SIGNS : ∃ t, PySem.W.nsIn (L2.KOf KX) mainGlobals "MOST_SIGNS" = some (some (.int 60 t)) := by
      dsimp only [L2.KOf]
      refine' Car.int_mk ?a
      (case a => k_is)
    have i_MOST_BRACKETS : ∃ t, PySem.W.nsIn (L2.KOf KX) mainGlobals "MOST_BRACKETS" = some (some (.int 5 t)) := by
      dsimp only [L2.KOf]
      refine' Car.int_mk ?a
      (case a => k_is)
    have i_MOST_NAMES : ∃ t, PySem.W.nsIn (L2.KOf KX) mainGlobals "MOST_NAMES" = some (some (.int 4 t)) := by
      dsimp only [L2.KOf]
      refine' Car.int_mk ?a
      (case a => k_is)
    have i_MOST_ROWS : ∃ t, PySem.W.nsIn (L2.KOf KX) mainGlobals "MOST_ROWS" = some (some (.int 120 t)) := by
      dsimp only [L2.KOf]
      refine' Car.int_mk ?a
      (case a => k_is)
    have i_MOST_BODIES : ∃ t, PySem.W.nsIn (L2.KOf KX) mainGlobals "MOST_BODIES" = some (some (.int 6 t)) := by
      dsimp only [L2.KOf]
      refine' Car.int_mk ?a
      (case a => k_is)
    have i_SMALL_LETTERS : ∃ t, PySem.W.nsIn (L2.KOf KX) mainGlobals "SMALL_LETTERS" = some (some (.str Car.smallT t)) := by
      dsimp only [L2.KOf]
      refine' Car.str_mk ?a
      (case a => k_is)
    have i_FIGURES : ∃ t, PySem.W.nsIn (L2.KOf KX) mainGlobals "FIGURES" = some (some (.str Car.figT t)) := by
      dsimp only [L2.KOf]
      refine' Car.str_mk ?a
      (case a => k_is)
    have i_JOINTS : ∃ t, PySem.W.nsIn (L2.KOf KX) mainGlobals "JOINTS" = some (some (.str Car.jointT t)) := by
      dsimp only [L2.KOf]
      refine' Car.str_mk ?a
      (case a => k_is)
    have KW : ∃ a, Car.KeptT (L2.KOf KX) a := by
      dsimp only [L2.KOf]
      refine' Car.kept_mk ?n ?l
      (case n => k_is); (case l => k_is)
    have S_TooLong : ∃ CN CC, Car.C_Row (L2.KOf KX) "TooLong" CN CC := by
      dsimp only [L2.KOf]
      refine' Car.C_Row_mk ?a0 ?a1 ?o1 ?o2 ?o3 ?o4 ?u1 ?u2 ?u3 ?u4 ?co ?ex ?su ?e1 ?e2 ?e3 ?e4 ?e5 ?e6 ?e7 ?e8 ?va ?se
      (case a0 => k_is); (case a1 => k_is); (case o1 => k_is); (case o2 => k_is); (case o3 => rfl); (case o4 => k_is); (case u1 => k_is); (case u2 => k_is); (case u3 => rfl); (case u4 => k_is); (case co => k_is); (case ex => k_is); (case su => k_is); (case e1 => k_is); (case e2 => k_is); (case e3 => k_is); (case e4 => k_is); (case e5 => k_is); (case e6 => k_is); (case e7 => k_is); (case e8 => k_is); (case va => k_is); (case se => k_is)
    have S_NoRow : ∃ CN CC, Car.C_Row (L2.KOf KX) "NoRow" CN CC := by
      dsimp only [L2.KOf]
      refine' Car.C_Row_mk ?a0 ?a1 ?o1 ?o2 ?o3 ?o4 ?u1 ?u2 ?u3 ?u4 ?co ?ex ?su ?e1 ?e2 ?e3 ?e4 ?e5 ?e6 ?e7 ?e8 ?va ?se
      (case a0 => k_is); (case a1 => k_is); (case o1 => k_is); (case o2 => k_is); (case o3 => rfl); (case o4 => k_is); (case u1 => k_is); (case u2 => k_is); (case u3 => rfl); (case u4 => k_is); (case co => k_is); (case ex => k_is); (case su => k_is); (case e1 => k_is); (case e2 => k_is); (case e3 => k_is); (case e4 => k_is); (case e5 => k_is); (case e6 => k_is); (case e7 => k_is); (case e8 => k_is); (case va => k_is); (case se => k_is)
    have S_NoPlace : ∃ CN CC, Car.C_Row (L2.KOf KX) "NoPlace" CN CC := by
      dsimp only [L2.KOf]
      refine' Car.C_Row_mk ?a0 ?a1 ?o1 ?o2 ?o3 ?o4 ?u1 ?u2 ?u3 ?u4 ?co ?ex ?su ?e1 ?e2 ?e3 ?e4 ?e5 ?e6 ?e7 ?e8 ?va ?se
      (case a0 => k_is); (case a1 => k_is); (case o1 => k_is); (case o2 => k_is); (case o3 => rfl); (case o4 => k_is); (case u1 => k_is); (case u2 => k_is); (case u3 => rfl); (case u4 => k_is); (case co => k_is); (case ex => k_is); (case su => k_is); (case e1 => k_is); (case e2 => k_is); (case e3 => k_is); (case e4 => k_is); (case e5 => k_is); (case e6 => k_is); (case e7 => k_is); (case e8 => k_is); (case va => k_is); (case se => k_is)
    have S_TooDeep : ∃ CN CC, Car.C_Row (L2.KOf KX) "TooDeep" CN CC := by
      dsimp only [L2.KOf]
      refine' Car.C_Row_mk ?a0 ?a1 ?o1 ?o2 ?o3 ?o4 ?u1 ?u2 ?u3 ?u4 ?co ?ex ?su ?e1 ?e2 ?e3 ?e4 ?e5 ?e6 ?e7 ?e8 ?va ?se
      (case a0 => k_is); (case a1 => k_is); (case o1 => k_is); (case o2 => k_is); (case o3 => rfl); (case o4 => k_is); (case u1 => k_is); (case u2 => k_is); (case u3 => rfl); (case u4 => k_is); (case co => k_is); (case ex => k_is); (case su => k_is); (case e1 => k_is); (case e2 => k_is); (case e3 => k_is); (case e4 => k_is); (case e5 => k_is); (case e6 => k_is); (case e7 => k_is); (case e8 => k_is); (case va => k_is); (case se => k_is)
    have S_Twice : ∃ CN CC, Car.C_Row (L2.KOf KX) "Twice" CN CC := by
      dsimp only [L2.KOf]
      refine' Car.C_Row_mk ?a0 ?a1 ?o1 ?o2 ?o3 ?o4 ?u1 ?u2 ?u3 ?u4 ?co ?ex ?su ?e1 ?e2 ?e3 ?e4 ?e5 ?e6 ?e7 ?e8 ?va ?se
      (case a0 => k_is); (case a1 => k_is); (case o1 => k_is); (case o2 => k_is); (case o3 => rfl); (case o4 => k_is); (case u1 => k_is); (case u2 => k_is); (case u3 => rfl); (case u4 => k_is); (case co => k_is); (case ex => k_is); (case su => k_is); (case e1 => k_is); (case e2 => k_is); (case e3 => k_is); (case e4 => k_is); (case e5 => k_is); (case e6 => k_is); (case e7 => k_is); (case e8 => k_is); (case va => k_is); (case se => k_is)
    have S_Open : ∃ CN CC, Car.C_Row (L2.KOf KX) "Open" CN CC := by
      dsimp only [L2.KOf]
      refine' Car.C_Row_mk ?a0 ?a1 ?o1 ?o2 ?o3 ?o4 ?u1 ?u2 ?u3 ?u4 ?co ?ex ?su ?e1 ?e2 ?e3 ?e4 ?e5 ?e6 ?e7 ?e8 ?va ?se
      (case a0 => k_is); (case a1 => k_is); (case o1 => k_is); (case o2 => k_is); (case o3 => rfl); (case o4 => k_is); (case u1 => k_is); (case u2 => k_is); (case u3 => rfl); (case u4 => k_is); (case co => k_is); (case ex => k_is); (case su => k_is); (case e1 => k_is); (case e2 => k_is); (case e3 => k_is); (case e4 => k_is); (case e5 => k_is); (case e6 => k_is); (case e7 => k_is); (case e8 => k_is); (case va => k_is); (case se => k_is)
    have S_NoSub : ∃ CN CC, Car.C_Row (L2.KOf KX) "NoSub" CN CC := by
      dsimp only [L2.KOf]
      refine' Car.C_Row_mk ?a0 ?a1 ?o1 ?o2 ?o3 ?o4 ?u1 ?u2 ?u3 ?u4 ?co ?ex ?su ?e1 ?e2 ?e3 ?e4 ?e5 ?e6 ?e7 ?e8 ?va ?se
      (case a0 => k_is); (case a1 => k_is); (case o1 => k_is); (case o2 => k_is); (case o3 => rfl); (case o4 => k_is); (case u1 => k_is); (case u2 => k_is); (case u3 => rfl); (case u4 => k_is); (case co => k_is); (case ex => k_is); (case su => k_is); (case e1 => k_is); (case e2 => k_is); (case e3 => k_is); (case e4 => k_is); (case e5 => k_is); (case e6 => k_is); (case e7 => k_is); (case e8 => k_is); (case va => k_is); (case se => k_is)
    have AX : ∃ a, Car.AxT (L2.KOf KX) a := by
      dsimp only [L2.KOf]
      refine' Car.ax_mk ?n ?l
      (case n => k_is); (case l => k_is)
    have CM : ∃ a, Car.CmpT (L2.KOf KX) a := by
      dsimp only [L2.KOf]
      refine' Car.cmp_mk ?n ?l
      (case n => k_is); (case l => k_is)
    have DI : ∃ a0 a1 a2 a3 a4 a5 a6 a7 a8 a9 a10 a11 c, Car.DisT (L2.KOf KX) a0 a1 a2 a3 a4 a5 a6 a7 a8 a9 a10 a11 c := by
      dsimp only [L2.KOf]
      refine' Car.dis_mk ?n0 ?n1 ?n2 ?n3 ?n4 ?n5 ?n6 ?n7 ?n8 ?n9 ?n10 ?n11 ?d0 ?d1 ?d2 ?d3 ?d4 ?d5 ?d6 ?d7 ?d8 ?d9 ?d10 ?d11 ?t0 ?t1 ?t2 ?t3 ?t4 ?t5 ?t6 ?t7 ?t8 ?t9 ?t10 ?t11 ?nc ?nd
      (case n0 => k_is); (case n1 => k_is); (case n2 => k_is); (case n3 => k_is); (case n4 => k_is); (case n5 => k_is); (case n6 => k_is); (case n7 => k_is); (case n8 => k_is); (case n9 => k_is); (case n10 => k_is); (case n11 => k_is); (case d0 => k_is); (case d1 => k_is); (case d2 => k_is); (case d3 => k_is); (case d4 => k_is); (case d5 => k_is); (case d6 => k_is); (case d7 => k_is); (case d8 => k_is); (case d9 => k_is); (case d10 => k_is); (case d11 => k_is); (case t0 => k_is); (case t1 => k_is); (case t2 => k_is); (case t3 => k_is); (case t4 => k_is); (case t5 => k_is); (case t6 => k_is); (case t7 => k_is); (case t8 => k_is); (case t9 => k_is); (case t10 => k_is); (case t11 => k_is); (case nc => k_is); (case nd => decide)
    have FM : ∃ a f1 f2 f3 f4 f5 f6 f7 f8, Car.FmD PySem.Challenge.rw_carvebed_k07_faults_together.prog w (L2.KOf KX) a f1 f2 f3 f4 f5 f6 f7 f8 := by
      dsimp only [L2.KOf]
      refine' Car.fm_mk ?n ?l ?e0 ?e1 ?e2 ?e3 ?e4 ?e5 ?e6 ?e7 ?e8 ?e9 ?hs ?g1 ?g2 ?g3 ?g4 ?g5 ?g6 ?g7 ?g8
      (case n => k_is); (case l => k_is); (case e0 => rfl); (case e1 => rfl); (case e2 => rfl); (case e3 => rfl); (case e4 => rfl); (case e5 => rfl); (case e6 => rfl); (case e7 => rfl); (case e8 => rfl); (case e9 => rfl); (case hs => decide); (case g1 => k_is); (case g2 => k_is); (case g3 => k_is); (case g4 => k_is); (case g5 => k_is); (case g6 => k_is); (case g7 => k_is); (case g8 => k_is)
    exact Car.all KX G hmg N i_MOST_LETTERS i_MOST_FIGURES i_MOST_SIGNS i_MOST_BRACKETS i_MOST_NAMES i_MOST_ROWS i_MOST_BODIES i_SMALL_LETTERS i_FIGURES i_JOINTS KW AX CM DI FM S_TooLong S_NoRow S_NoPlace S_TooDeep S_Twice S_Open S_NoSub T_is_written_in T_is_name T_is_number T_expression T_look_at_length T_name_of T_hold_row T_move_row T_let_row T_call_row T_times_row T_if_row T_bare_row T_sub_row T_row_of T_read T__law_cell_at T__law_stir T__law_bad T__law_any_row T__law_judged T__law_refusal T_law T_Scan T_Draft
#print axioms PySem.Challenge.cw_carvebed_k07_faults_together_holds

