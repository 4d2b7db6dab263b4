import PyProof.Rows.All
import Wide.All
import OpenK.AllK
import Wide.FinOn
import Lean
import PyProof.EqAt
import PyProof.EqKinds
import PyProof.TupleCall
import PySem.Challenge.RW_carvebed_k41_why_a_cell_is_left
set_option Elab.async false
set_option linter.all false
set_option maxRecDepth 100000
-- CHANGE: your row's module here, as the last of these rows
/-! THE HAND LAYER, for ints, bools, texts, own classes, LISTS and tuples (index, slices, in, append, pop ..), calls, loops. Paste it whole ahead of your own text; what your proof does not reach may be deleted. -/
namespace L2
open PySem PySem.Spec PyProof.Rows

/-- a key: an int or a str -/
noncomputable abbrev Key := Sum Int Str
noncomputable def keyIs : Key → Value → Bool
  | .inl k, v => Value.isInt k v
  | .inr x, v => Value.isStrOf x v
noncomputable def keyH (w : World) : Key → Int
  | .inl k => hashInt k
  | .inr x => hashStr w x
theorem keyIs_shape : ∀ {k : Key} {v : Value}, keyIs k v = true → (∃ i t, k = Sum.inl i ∧ v = Value.int i t) ∨ (∃ x t, k = Sum.inr x ∧ v = Value.str x t)
  | .inl i, v, h => by
    obtain ⟨t, e⟩ := Value.isInt_shape (k := i) (v := v) h
    exact .inl ⟨i, t, rfl, e⟩
  | .inr x, v, h => by
    obtain ⟨t, e⟩ := Value.isStrOf_shape (x := x) (v := v) h
    exact .inr ⟨x, t, rfl, e⟩
theorem key_ll (a b : Int) : decide ((Sum.inl a : Key) = Sum.inl b) = (a == b) := by
  by_cases e : a = b
  · subst e; simp
  · have h : ¬ (Sum.inl a : Key) = Sum.inl b := fun q => e (Sum.inl.inj q)
    rw [decide_eq_false h]
    exact (beq_eq_false_iff_ne.mpr e).symm
theorem key_rr (a b : Str) : decide ((Sum.inr a : Key) = Sum.inr b) = decide (a = b) := by
  by_cases e : a = b
  · subst e; simp
  · have h : ¬ (Sum.inr a : Key) = Sum.inr b := fun q => e (Sum.inr.inj q)
    rw [decide_eq_false h, decide_eq_false e]
theorem key_lr (a : Int) (b : Str) : decide ((Sum.inl a : Key) = Sum.inr b) = false := decide_eq_false (fun q => nomatch q)
theorem key_rl (a : Str) (b : Int) : decide ((Sum.inr a : Key) = Sum.inl b) = false := decide_eq_false (fun q => nomatch q)

noncomputable def mixKind (prog : Program) (w : World) : PySem.KeyKind prog w Key where
  is := keyIs
  hash := keyH w
  inj := fun v a b ha hb => by
    rcases keyIs_shape ha with ⟨i, t, rfl, rfl⟩ | ⟨x, t, rfl, rfl⟩
    · rcases keyIs_shape hb with ⟨j, u, rfl, e⟩ | ⟨y, u, rfl, e⟩
      · injection e with e1 _; rw [e1]
      · exact nomatch e
    · rcases keyIs_shape hb with ⟨j, u, rfl, e⟩ | ⟨y, u, rfl, e⟩
      · exact nomatch e
      · injection e with e1 _; rw [e1]
  byValue := fun k v h => by
    rcases keyIs_shape h with ⟨i, t, rfl, rfl⟩ | ⟨x, t, rfl, rfl⟩ <;> rfl
  pyHash := fun hv h => by
    rcases keyIs_shape hv with ⟨i, t, rfl, rfl⟩ | ⟨x, t, rfl, rfl⟩
    · exact wpAny_pyHash_int h
    · exact wpAny_pyHash_str h
  eqBool := fun hu hv h => by
    rcases keyIs_shape hu with ⟨i, t, rfl, rfl⟩ | ⟨x, t, rfl, rfl⟩
    · rcases keyIs_shape hv with ⟨j, u, rfl, rfl⟩ | ⟨y, u, rfl, rfl⟩
      · rw [key_ll] at h; exact wpAny_eqBool_int h
      · rw [key_lr] at h; exact SeqAt.EqAt.int_str i t y u _ _ _ _ h
    · rcases keyIs_shape hv with ⟨j, u, rfl, rfl⟩ | ⟨y, u, rfl, rfl⟩
      · rw [key_rl] at h; exact SeqAt.EqAt.str_int x t j u _ _ _ _ h
      · rw [key_rr] at h; exact wpAny_eqBool_str h
  «strs» := fun k x t v h => by
    rcases keyIs_shape h with ⟨i, u, rfl, e⟩ | ⟨y, u, rfl, e⟩
    · exact nomatch e
    · injection e with e1 _
      subst e1
      cases v <;> rfl

end L2

namespace L2
open PySem PySem.Spec PyProof.Rows

/-- a value, without the heap -/
inductive V where
  | non | bl (b : Bool) | int (i : Int) | str (x : Str) | byt (b : Array UInt8) | flt (b : UInt64) | ref (a : Addr) | ty (n : String)
  deriving DecidableEq

noncomputable def RelV : V → Value → Prop
  | .non, u => u = Value.none
  | .bl b, u => u = Value.bool b
  | .int i, u => ∃ t, u = Value.int i t
  | .str x, u => ∃ t, u = Value.str x t
  | .byt b, u => ∃ t, u = Value.bytes b t
  | .flt b, u => ∃ t, u = Value.float b t
  | .ref a, u => u = Value.ref a
  | .ty n, u => u = Value.type n

noncomputable abbrev Vals : List V → List Value → Prop := Paired RelV
theorem Vals.length {xs : List V} {us : List Value} (r : Vals xs us) : xs.length = us.length := Paired.length r
theorem Vals.get : ∀ {xs : List V} {us : List Value} {i : Nat} {x : V}, Vals xs us → xs[i]? = some x → ∃ u, us[i]? = some u ∧ RelV x u
  | _, _, _, _, .nil, e => by simp at e
  | _, _, 0, _, .cons r _, e => by simp at e; subst e; exact ⟨_, rfl, r⟩
  | _, _, i + 1, x, .cons _ t, e => by
    obtain ⟨u, h1, h2⟩ := Vals.get (i := i) (x := x) t (by simpa using e)
    exact ⟨u, by simpa using h1, h2⟩
theorem Vals.set {x : V} {u : Value} (r : RelV x u) : ∀ {xs : List V} {us : List Value} (i : Nat), Vals xs us → Vals (xs.set i x) (us.set i u)
  | _, _, _, .nil => .nil
  | _, _, 0, .cons _ t => .cons r t
  | _, _, i + 1, .cons q t => .cons q (Vals.set r i t)
theorem Vals.append : ∀ {xs ys : List V} {us ws : List Value}, Vals xs us → Vals ys ws → Vals (xs ++ ys) (us ++ ws)
  | _, _, _, _, .nil, s => s
  | _, _, _, _, .cons r t, s => .cons r (Vals.append t s)
theorem Vals.take : ∀ {xs : List V} {us : List Value} (n : Nat), Vals xs us → Vals (xs.take n) (us.take n)
  | _, _, 0, _ => .nil
  | _, _, _ + 1, .nil => .nil
  | _, _, n + 1, .cons r t => .cons r (Vals.take n t)
theorem Vals.drop : ∀ {xs : List V} {us : List Value} (n : Nat), Vals xs us → Vals (xs.drop n) (us.drop n)
  | _, _, 0, r => r
  | _, _, _ + 1, .nil => .nil
  | _, _, n + 1, .cons _ t => Vals.drop n t

noncomputable def RelO : Option V → Option Value → Prop
  | some v, some u => RelV v u
  | none, none => True
  | _, _ => False
noncomputable def KV {κ : Type} : List (κ × V) → List (κ × Value) → Prop := Paired fun (p : κ × V) (q : κ × Value) => p.1 = q.1 ∧ RelV p.2 q.2

/-- a key of a dict (00_mix): an int or a text -/
noncomputable def kV : Key → V
  | .inl i => .int i
  | .inr x => .str x

/-- what stands at a tracked address -/
inductive HO where
  /-- a list -/
  | lst (xs : List V)
  /-- a tuple (never changes) -/
  | tup (xs : List V)
  /-- a dict whose keys are ints and texts; one whose keys are tuples of ints and texts (the empty one is both) -/
  | dK (kvs : List (Key × V)) | dT (kvs : List (List Key × V))
  /-- a set of ints: its members, its size -/
  | set (S : Int → Bool) (n : Nat)
  /-- an instance of the class at C, its dict at dx, its attributes -/
  | ins (C dx : Addr) (fs : List (Str × V))
  /-- the dict of the instance at x -/
  | own (x : Addr)
  /-- the dict of an exception -/
  | xd (fs : List (Str × V))
  /-- a bound method, f of x -/
  | met (f x : Addr)
  /-- a range object lo, lo + 1, .. below hi -/
  | rng (lo hi : Int)
  /-- a thing that is known to the object (the script; a dict while a loop walks it): read, never written while it is so -/
  | frz (o : Obj) (u : HO)
  /-- a code object's table -/
  | tbl (ps : Array Value)
  /-- any other thing, by what is true of its one object (a def of one's own: SetO a S n := HO.ext fun h => ..) -/
  | ext (φ : Heap → Prop)

noncomputable abbrev Hp := Addr → Option HO
noncomputable def upd (H : Hp) (a : Addr) (o : HO) : Hp := fun b => if b = a then some o else H b
theorem upd_same {H : Hp} {a : Addr} {o : HO} : upd H a o a = some o := by unfold upd; rw [if_pos rfl]
theorem upd_ne {H : Hp} {a b : Addr} {o : HO} (h : b ≠ a) : upd H a o b = H b := by unfold upd; rw [if_neg h]
theorem upd_upd {H : Hp} {a : Addr} {o u : HO} : upd (upd H a o) a u = upd H a u := by
  funext b; unfold upd; split <;> rfl
theorem ne_of_none {H : Hp} {a b : Addr} {o : HO} (h : H a = some o) (h' : H b = none) : a ≠ b := by
  intro e; subst e; rw [h] at h'; cases h'

section
variable (P : Program) (w : World)
noncomputable def ObjOk (H : Hp) (h : Heap) (a : Addr) : HO → Prop
  | .lst xs => xs.length ≤ sizeLine ∧ ∃ (its : List Value) (n : Nat), Vals xs its ∧ h.get? a = some { cls := .type "list", data := .seq its.toArray n }
  | .tup xs => xs.length ≤ sizeLine ∧ ∃ its : List Value, Vals xs its ∧ IsTup h a its.toArray
  | .dK kvs => kvs.length ≤ sizeLine ∧ (a == sysModules) = false ∧ ∃ vs, KV kvs vs ∧ h.DictOf (mixKind P w) a vs
  | .dT kvs => kvs.length ≤ sizeLine ∧ (a == sysModules) = false ∧ ∃ xs : List (List Key × Addr × Value),
      Paired (fun (p : List Key × V) (q : List Key × Addr × Value) => p.1 = q.1 ∧ H q.2.1 = some (.tup (p.1.map kV)) ∧ RelV p.2 q.2.2) kvs xs ∧
      ∃ o es ep, h.get? a = some o ∧ o.ExactDict ∧ o.data = .dict es ep ∧ es.toList = xs.map (entryOfKey (tupleKind (mixKind P w))) ∧ (xs.map (·.1)).Nodup
  | .set S n => h.SetOf (intKind P w) a S n
  | .ins C dx fs => H dx = some (.own a) ∧ fs.length ≤ 1000 ∧ dx ≠ a ∧ h.get? a = some (PySem.W.instObj C dx) ∧
      ∃ mA, h.Ns1 dx mA ∧ (∀ f, RelO (fs.lookup f) (mA f)) ∧ PySem.Within mA (fs.map (·.1))
  | .own _ => ∃ o, h.get? a = some o
  | .xd fs => ∃ mA, h.Ns1 a mA ∧ ∀ f, RelO (fs.lookup f) (mA f)
  | .rng lo hi => ∃ t u v, h.get? a = some { cls := .type "range", data := .fields #[.int lo t, .int hi u, .int 1 v] }
  | .frz o u => h.get? a = some o ∧ ObjOk H h a u
  | .tbl ps => h.get? a = some { cls := .none, data := .fields ps }
  | .met f x => h.get? a = some (PySem.W.methodObj (.ref f) (.ref x))
  | .ext φ => φ h ∧ (∃ o, h.get? a = some o) ∧ ∀ h1 h2 : Heap, φ h1 → (∀ o, h1.get? a = some o → h2.get? a = some o) → φ h2
/-- the abstract heap is held -/
noncomputable def HOk (H : Hp) (h : Heap) : Prop := ∀ a o, H a = some o → ObjOk P w H h a o
end

section
variable {P : Program} {w : World} {H H' : Hp} {h h' : Heap} {a : Addr} {o : HO}
theorem ObjOk.lt (x : ObjOk P w H h a o) : a < h.objs.size := by
  cases o with
  | lst xs => obtain ⟨_, _, _, _, e⟩ := x; exact Heap.lt_size e
  | tup xs => obtain ⟨_, _, _, p⟩ := x; exact p.lt
  | dK kvs => obtain ⟨_, _, _, _, o, _, _, e, _⟩ := x; exact Heap.lt_size e
  | dT kvs => obtain ⟨_, _, _, _, o, _, _, e, _⟩ := x; exact Heap.lt_size e
  | set S n => obtain ⟨o, _, _, _, e, _⟩ := x; exact Heap.lt_size e
  | ins C dx fs => obtain ⟨_, _, _, e, _⟩ := x; exact Heap.lt_size e
  | own y => obtain ⟨_, e⟩ := x; exact Heap.lt_size e
  | xd fs => obtain ⟨_, ⟨_, _, _, e, _⟩, _⟩ := x; exact Heap.lt_size e
  | rng lo hi => obtain ⟨_, _, _, e⟩ := x; exact Heap.lt_size e
  | frz ob u => obtain ⟨e, _⟩ := x; exact Heap.lt_size e
  | tbl ps => exact Heap.lt_size (show h.get? a = some _ from x)
  | met f y => exact Heap.lt_size (show h.get? a = some _ from x)
  | ext φ => obtain ⟨_, ⟨_, e⟩, _⟩ := x; exact Heap.lt_size e
theorem Paired.mapP {α β : Type} {F G : α → β → Prop} : ∀ {l₁ : List α} {l₂ : List β}, Paired F l₁ l₂ → (∀ a b, F a b → G a b) → Paired G l₁ l₂
  | _, _, .nil, _ => .nil
  | _, _, .cons r t, f => .cons (f _ _ r) (Paired.mapP t f)
/-- what an object's description leans on: its own object, its own dict, the tuples -/
theorem ObjOk.stay (x : ObjOk P w H h a o) (k : ∀ b u, (b = a ∨ H b = some (.own a)) → h.get? b = some u → h'.get? b = some u)
    (ho : ∀ b, H b = some (.own a) → H' b = some (.own a)) (ht : ∀ b xs, H b = some (.tup xs) → H' b = some (.tup xs)) : ObjOk P w H' h' a o := by
  induction o with
  | lst xs => obtain ⟨z, its, n, r, e⟩ := x; exact ⟨z, its, n, r, k _ _ (.inl rfl) e⟩
  | tup xs => obtain ⟨z, its, r, ob, e, c⟩ := x; exact ⟨z, its, r, ob, k _ _ (.inl rfl) e, c⟩
  | dK kvs => obtain ⟨z, y, vs, r, ob, es, ep, e, c⟩ := x; exact ⟨z, y, vs, r, ob, es, ep, k _ _ (.inl rfl) e, c⟩
  | dT kvs =>
    obtain ⟨z, y, xs, r, ob, es, ep, e, c⟩ := x
    exact ⟨z, y, xs, Paired.mapP r fun p q z => ⟨z.1, ht _ _ z.2.1, z.2.2⟩, ob, es, ep, k _ _ (.inl rfl) e, c⟩
  | set S n => obtain ⟨ob, es, ep, t, e, c⟩ := x; exact ⟨ob, es, ep, t, k _ _ (.inl rfl) e, c⟩
  | ins C dx fs =>
    obtain ⟨d, z, ne, e, mA, ⟨od, es, ep, e2, c⟩, r⟩ := x
    exact ⟨ho _ d, z, ne, k _ _ (.inl rfl) e, mA, ⟨od, es, ep, k _ _ (.inr d) e2, c⟩, r⟩
  | own y => obtain ⟨ob, e⟩ := x; exact ⟨ob, k _ _ (.inl rfl) e⟩
  | xd fs => obtain ⟨mA, ⟨od, es, ep, e, c⟩, r⟩ := x; exact ⟨mA, ⟨od, es, ep, k _ _ (.inl rfl) e, c⟩, r⟩
  | rng lo hi => obtain ⟨t, u, v, e⟩ := x; exact ⟨t, u, v, k _ _ (.inl rfl) e⟩
  | frz ob u ih => obtain ⟨e, q⟩ := x; exact ⟨k _ _ (.inl rfl) e, ih q⟩
  | tbl ps =>
    have e : h.get? a = some { cls := .none, data := .fields ps } := x
    show h'.get? a = some { cls := .none, data := .fields ps }
    exact k a _ (.inl rfl) e
  | met f y =>
    have e : h.get? a = some (PySem.W.methodObj (.ref f) (.ref y)) := x
    show h'.get? a = some (PySem.W.methodObj (.ref f) (.ref y))
    exact k a _ (.inl rfl) e
  | ext φ => obtain ⟨p, ⟨o, e⟩, st⟩ := x; exact ⟨st _ _ p fun o q => k _ _ (.inl rfl) q, ⟨o, k _ _ (.inl rfl) e⟩, st⟩
theorem HOk.lt (x : HOk P w H h) (e : H a = some o) : a < h.objs.size := (x a o e).lt
theorem HOk.fresh (x : HOk P w H h) (e : h.objs.size ≤ a) : H a = none := by
  cases q : H a with
  | none => rfl
  | some u => exact absurd (Nat.lt_of_lt_of_le (x.lt q) e) (Nat.lt_irrefl _)
/-- every object of the heap is kept -/
theorem HOk.kept (x : HOk P w H h) (k : ∀ b u, h.get? b = some u → h'.get? b = some u) : HOk P w H h' := fun a o e =>
  (x a o e).stay (fun b u _ q => k b u q) (fun _ q => q) fun _ _ q => q
/-- a new object is laid and tracked -/
theorem HOk.laid (x : HOk P w H h) (k : ∀ b u, h.get? b = some u → h'.get? b = some u) (hp : h.objs.size ≤ a) (new : ObjOk P w (upd H a o) h' a o) : HOk P w (upd H a o) h' := fun b u e => by
  have hn := x.fresh hp
  by_cases hb : b = a
  · subst hb; rw [upd_same] at e; cases e; exact new
  · rw [upd_ne hb] at e
    exact (x b u e).stay (fun c v _ q => k c v q) (fun c q => by rw [upd_ne (ne_of_none q hn)]; exact q) fun c xs q => by rw [upd_ne (ne_of_none q hn)]; exact q
end

/-- what may be read as u: it is u, or a known u -/
noncomputable def Rd (H : Hp) (a : Addr) (u : HO) : Prop := H a = some u ∨ ∃ o, H a = some (.frz o u)
theorem Rd.ok {P : Program} {w : World} {H : Hp} {h : Heap} {a : Addr} {u : HO} (r : Rd H a u) (x : HOk P w H h) : ObjOk P w H h a u := by
  rcases r with r | ⟨o, r⟩
  · exact x a u r
  · obtain ⟨_, q⟩ := x a _ r
    exact q
/-- what may be written -/
noncomputable def Mut : Option HO → Prop
  | some (.lst _) => True
  | some (.dK _) => True
  | some (.dT _) => True
  | some (.set _ _) => True
  | some (.ins _ _ _) => True
  | some (.ext _) => True
  | _ => False
section
variable {P : Program} {w : World} {H : Hp} {h h' : Heap} {x e : Addr} {o' : HO}
/-- the object at e is changed: x itself, or the dict of the instance x -/
theorem HOk.write (ok : HOk P w H h) (mu : Mut (H x)) (he : e = x ∨ H e = some (.own x)) (k : ∀ b u, b ≠ e → h.get? b = some u → h'.get? b = some u) (heo : ∃ u, h'.get? e = some u)
    (new : ObjOk P w (upd H x o') h' x o') : HOk P w (upd H x o') h' := fun b u q => by
  have nown : ∀ c y, H c = some (.own y) → c ≠ x := fun c y r z => by subst z; rw [r] at mu; exact mu
  have ntup : ∀ c xs, H c = some (.tup xs) → c ≠ x := fun c xs r z => by subst z; rw [r] at mu; exact mu
  by_cases hb : b = x
  · subst hb; rw [upd_same] at q; cases q; exact new
  · rw [upd_ne hb] at q
    by_cases hbe : b = e
    · have q' : H b = some (.own x) := by
        rcases he with z | z
        · exact absurd (hbe.trans z) hb
        · rw [hbe]; exact z
      rw [q] at q'; cases q'
      obtain ⟨v, hv⟩ := heo
      exact ⟨v, by rw [hbe]; exact hv⟩
    · refine (ok b u q).stay (fun c v hc r => k c v ?_ r) (fun c r => by rw [upd_ne (nown c b r)]; exact r) fun c xs r => by rw [upd_ne (ntup c xs r)]; exact r
      rcases hc with rfl | hc
      · exact hbe
      · rintro rfl
        rcases he with z | z
        · exact nown c b hc z
        · rw [hc] at z; cases z; exact hb rfl
end

/-! ### kept unless tracked; of the frames at fs (the callers') the slots may change (an exception that passes writes there); of the records at ex (iterators) nothing is said -/
structure Un (fs ex : List Addr) (H H' : Hp) (h h' : Heap) : Prop where
  keep : ∀ b o, h.get? b = some o → H b = none → b ∉ fs → b ∉ ex → h'.get? b = some o
  slot : ∀ b o, h.get? b = some o → H b = none → b ∈ fs → b ∉ ex → ∃ sl, h'.get? b = some { o with slots := sl }
  free : ∀ b o, h.get? b = some o → H b = none → b ∉ ex → H' b = none
  there : ∀ b o, h.get? b = some o → b ∉ ex → ∃ o', h'.get? b = some o'
  tups : ∀ b xs, H b = some (.tup xs) → H' b = some (.tup xs)
  frzs : ∀ b o u, H b = some (.frz o u) → H' b = some (.frz o u)
  tbls : ∀ b ps, H b = some (.tbl ps) → ∃ more, H' b = some (.tbl (ps ++ more))
section
variable {fs fs' ex ex' : List Addr} {H H1 H2 : Hp} {h h1 h2 h' : Heap} {a x e : Addr} {o : HO}
theorem Un.any (u : Un fs ex H H1 h h1) {b : Addr} {ob : Obj} (q : h.get? b = some ob) (n : H b = none) (hx : b ∉ ex) : ∃ sl, h1.get? b = some { ob with slots := sl } := by
  by_cases hb : b ∈ fs
  · exact u.slot b ob q n hb hx
  · exact ⟨ob.slots, u.keep b ob q n hb hx⟩
theorem Un.kept (k : ∀ b u, h.get? b = some u → h'.get? b = some u) : Un fs ex H H h h' :=
  ⟨fun b ob q _ _ _ => k b ob q, fun b ob q _ _ _ => ⟨ob.slots, k b ob q⟩, fun _ _ _ n _ => n, fun b ob q _ => ⟨ob, k b ob q⟩, fun _ _ q => q, fun _ _ _ q => q, fun _ ps q => ⟨#[], by rw [q]; simp⟩⟩
theorem Un.refl : Un fs ex H H h h := Un.kept fun _ _ q => q
theorem Un.laid (k : ∀ b u, h.get? b = some u → h'.get? b = some u) (hp : h.objs.size ≤ a) (hn : H a = none) : Un fs ex H (upd H a o) h h' where
  keep := fun b u q _ _ _ => k b u q
  slot := fun b u q _ _ _ => ⟨u.slots, k b u q⟩
  free := fun b u q n _ => by rw [upd_ne (Nat.ne_of_lt (Nat.lt_of_lt_of_le (Heap.lt_size q) hp))]; exact n
  there := fun b u q _ => ⟨u, k b u q⟩
  tups := fun b xs q => by rw [upd_ne (ne_of_none q hn)]; exact q
  frzs := fun b u xs q => by rw [upd_ne (ne_of_none q hn)]; exact q
  tbls := fun b ps q => ⟨#[], by rw [upd_ne (ne_of_none q hn), q]; simp⟩
theorem Un.write (mu : Mut (H x)) (he : e = x ∨ H e = some (.own x)) (k : ∀ b u, b ≠ e → h.get? b = some u → h'.get? b = some u) (heo : ∃ u, h'.get? e = some u) : Un fs ex H (upd H x o) h h' := by
  have hx : ∀ b, H b = none → b ≠ x := fun b n z => by subst z; rw [n] at mu; exact mu
  have hb : ∀ b, H b = none → b ≠ e := fun b n z => by
    subst z
    rcases he with r | r
    · exact hx b n r
    · rw [n] at r; cases r
  have hm : ∀ b u, H b = some u → ¬ Mut (some u) → b ≠ x := fun b u q nm z => by subst z; rw [q] at mu; exact nm mu
  refine ⟨fun b u q n _ _ => k b u (hb b n) q, fun b u q n _ _ => ⟨u.slots, k b u (hb b n) q⟩, fun b u q n _ => by rw [upd_ne (hx b n)]; exact n, fun b u q _ => ?_,
    fun b xs q => by rw [upd_ne (hm b _ q fun z => z)]; exact q, fun b u xs q => by rw [upd_ne (hm b _ q fun z => z)]; exact q, fun b ps q => ⟨#[], by rw [upd_ne (hm b _ q fun z => z), q]; simp⟩⟩
  by_cases hbe : b = e
  · subst hbe; exact heo
  · exact ⟨u, k b u hbe q⟩
end

/-! ### the heap without what is tracked -/
noncomputable def trk (h : Heap) (H : Hp) : List Addr := (List.range h.objs.size).filter fun a => (H a).isSome
noncomputable def hidT (h : Heap) (H : Hp) : Heap := PySem.W.hideAll h (trk h H)
theorem hidT_size (h : Heap) (H : Hp) : (hidT h H).objs.size = h.objs.size := PySem.W.hideAll_size _ _
theorem hidT_get {h : Heap} {H : Hp} {b : Addr} {o : Obj} (e : h.get? b = some o) (n : H b = none) : (hidT h H).get? b = some o :=
  PySem.W.hideAll_get _ e fun hm => by
    have q : (H b).isSome = true := (List.mem_filter.mp hm).2
    rw [n] at q; simp at q
theorem of_hidT {h : Heap} {H : Hp} {b : Addr} {o : Obj} (e : (hidT h H).get? b = some o) : h.get? b = some o ∧ H b = none := by
  have e' : h.get? b = some o := PySem.W.of_hideAll (trk h H) e
  refine ⟨e', ?_⟩
  cases q : H b with
  | none => rfl
  | some x =>
    have hm : b ∈ trk h H := List.mem_filter.mpr ⟨List.mem_range.mpr (Heap.lt_size e'), by simp [q]⟩
    have z : (hidT h H).get? b = none := PySem.W.hideAll_none (trk h H) hm
    rw [z] at e; cases e

/-! ### OpenK's ledger, filled with every new object but one -/
end L2

namespace L2
open PySem PySem.Spec PyProof.Rows

/-- the module's facts, over the base: the heap at the law's entry without what is tracked there -/
structure Mod (K : PySem.W.Frag) (mg : Str → Option Value) (base : Heap) : Prop where
  kin : K.In base
  glob : base.Ns mainGlobals mg
  blt : ∃ mb, base.Ns builtinsNs mb ∧ ∀ x : Str, x ≠ "__name__" → mb x = bootBuiltins x
  nolimit : base.NoLimit

/-- the context: a def's body (or a comprehension's block) running. base: fixed through the whole law; s₀, H₀: the entry; outer: the frames whose slots others may change (a def's callers); stack: all frames that run;
   ex: iterators that were made ahead of the entry and are walked here (a comprehension's); fn: the names whose cells were made at the entry (a def: all; a comprehension's block: its own); calm: not within an except suite; pn: pins that every state bears; xe: what is wanted of an exception that leaves the code -/
structure Cx where
  prog : Program
  w : World
  K : PySem.W.Frag
  mg : Str → Option Value
  base : Heap
  A : Around
  N : List Str
  s₀ : Shared
  H₀ : Hp
  env : Env
  outer : List Env
  stack : List Env
  ex : List Addr
  fn : Str → Bool
  calm : Bool
  pn : List (Addr × Obj)
  xe : Value → Shared → Prop
/-- the callers' frames -/
noncomputable def frs (l : List Env) : List Addr := l.filterMap (·.frame)
noncomputable abbrev Cx.fs (X : Cx) : List Addr := frs X.outer

noncomputable def Vis (sc : Scope) (x : Str) : Prop := sc.names.lookup x = some .local ∨ sc.names.lookup x = some .cell ∨ sc.names.lookup x = some .free
noncomputable def Loc (sc : Scope) (x : Str) : Prop := sc.names.lookup x = some .local ∨ sc.names.lookup x = some .cell
noncomputable def Look (env : Env) (h : Heap) (m : Str → Option Value) (x : Str) (u : Value) : Prop :=
  (env.kindOf x = some .local ∧ m x = some u) ∨ ((env.kindOf x = some .cell ∨ env.kindOf x = some .free) ∧ ∃ c, env.cells.lookup x = some c ∧ h.IsCell c (some u))

structure Cx.Ok (X : Cx) : Prop where
  mod : Mod X.K X.mg X.base
  kind : X.env.scope.kind = .function
  glob : X.env.globals = mainGlobals
  blt : X.env.builtins = builtinsNs
  above : X.s₀.heap.objs.size ≤ X.env.locals
  inj : ∀ x y c, X.env.cells.lookup x = some c → X.env.cells.lookup y = some c → x = y
  has : ∀ x, (X.env.kindOf x = some .cell ∨ X.env.kindOf x = some .free) → ∃ c, X.env.cells.lookup x = some c
  cab : ∀ x c, X.fn x = true → X.env.cells.lookup x = some c → X.s₀.heap.objs.size ≤ c
  hd : X.calm = true → X.A.handled = none
  frames : X.A.frames = some X.stack
  stk : X.stack = X.outer ∨ (X.stack = X.env :: X.outer ∧ X.env.frame = some X.env.locals)
  exf : ∀ b ∈ X.ex, b ≠ X.env.locals ∧ ∀ x c, X.env.cells.lookup x = some c → c ≠ b
  bs : ∀ b o, X.base.get? b = some o → X.s₀.heap.get? b = some o ∧ X.H₀ b = none
  bsz : X.base.objs.size ≤ X.s₀.heap.objs.size
  noex : ∀ b o, X.base.get? b = some o → b ∉ X.ex
  exfs : ∀ b ∈ X.ex, b ∉ X.fs
  funs : X.s₀.heap.FunFrames X.base X.outer
  frf : ∀ b ∈ X.fs, X.H₀ b = none

structure Inv (X : Cx) (pins : List (Addr × Obj)) (σ : List (Option V)) (H : Hp) (s : Shared) : Prop where
  ok : X.Ok
  os : s.os = X.s₀.os
  bare : AllBare s.gens
  base : Un X.fs X.ex X.H₀ H X.s₀.heap s.heap
  loc : ∃ m, s.heap.Ns X.env.locals m ∧ ∀ (i : Nat) (x : Str) (v : V), X.N[i]? = some x → σ[i]? = some (some v) → Vis X.env.scope x → ∃ u, RelV v u ∧ Look X.env s.heap m x u
  cell : ∀ x c, X.env.cells.lookup x = some c → ∃ v, s.heap.IsCell c v
  free : H X.env.locals = none
  freeC : ∀ x c, X.env.cells.lookup x = some c → H c = none
  pin : ∀ p ∈ X.pn ++ pins, s.heap.get? p.1 = some p.2 ∧ H p.1 = none ∧ p.1 ≠ X.env.locals ∧ p.1 ∉ X.fs ∧ ∀ v, p.2.data ≠ .cell v
  hok : HOk X.prog X.w H s.heap
  len : σ.length = X.N.length

section
variable {X : Cx} {pins : List (Addr × Obj)} {σ : List (Option V)} {H H' : Hp} {s : Shared} {h' : Heap}

theorem Cx.Ok.nofr (ok : X.Ok) {b : Addr} {o : Obj} (e : X.base.get? b = some o) : b ∉ X.fs := fun hb => by
  have := (ok.funs.mem hb).1
  rw [e] at this; cases this
theorem Inv.bs (I : Inv X pins σ H s) : ∀ b o, X.base.get? b = some o → s.heap.get? b = some o ∧ H b = none := fun b o e =>
  ⟨I.base.keep b o (I.ok.bs b o e).1 (I.ok.bs b o e).2 (I.ok.nofr e) (I.ok.noex b o e), I.base.free b o (I.ok.bs b o e).1 (I.ok.bs b o e).2 (I.ok.noex b o e)⟩
theorem Inv.bk (I : Inv X pins σ H s) : ∀ b o, X.base.get? b = some o → s.heap.get? b = some o := fun b o e => (I.bs b o e).1
theorem Inv.mod (I : Inv X pins σ H s) : Mod X.K X.mg X.base := I.ok.mod
theorem Inv.kIn (I : Inv X pins σ H s) : X.K.In s.heap := I.ok.mod.kin.keeps I.bk
theorem Inv.lt (I : Inv X pins σ H s) : X.env.locals < s.heap.objs.size := let ⟨_, hn, _⟩ := I.loc; hn.lt
theorem Inv.sz (I : Inv X pins σ H s) : X.s₀.heap.objs.size ≤ s.heap.objs.size := Nat.le_trans I.ok.above (Nat.le_of_lt I.lt)
theorem Inv.nofs (I : Inv X pins σ H s) {a : Addr} (h : s.heap.objs.size ≤ a) : a ∉ X.fs := fun hb => by
  obtain ⟨_, o, ho, _⟩ := I.ok.funs.mem hb
  exact absurd (Nat.lt_of_lt_of_le (Heap.lt_size ho) (Nat.le_trans I.sz h)) (Nat.lt_irrefl _)
theorem Inv.cne (I : Inv X pins σ H s) : ∀ x c, X.env.cells.lookup x = some c → c ≠ X.env.locals := fun x c e z => by
  obtain ⟨v, o, ho, hd⟩ := I.cell x c e
  obtain ⟨m, ⟨o', es, ep, ho', hd', _⟩, _⟩ := I.loc
  rw [z, ho'] at ho; cases ho; rw [hd'] at hd; cases hd
theorem Inv.funs (I : Inv X pins σ H s) : s.heap.FunFrames X.base X.outer := by
  have all : ∀ (l : List Env), (∀ b ∈ frs l, b ∈ X.fs) → X.s₀.heap.FunFrames X.base l → s.heap.FunFrames X.base l := by
    intro l
    induction l with
    | nil => intro _ _; trivial
    | cons env r ih =>
      intro hs hl
      obtain ⟨hk, ⟨L, o, hf, hn, ho, hd⟩, hr⟩ := hl
      have hL : L ∈ X.fs := hs L (by unfold frs; rw [List.filterMap_cons, hf]; exact List.mem_cons_self)
      obtain ⟨sl, e⟩ := I.base.slot L o ho (I.ok.frf L hL) hL fun z => I.ok.exfs L z hL
      exact ⟨hk, ⟨L, _, hf, hn, e, hd⟩, ih (fun b hb => hs b (by unfold frs; rw [List.filterMap_cons, hf]; exact List.mem_cons_of_mem _ hb)) hr⟩
  exact all X.outer (fun _ hb => hb) I.ok.funs

/-- the frames that run, for a call -/
theorem Inv.stack (I : Inv X pins σ H s) : s.heap.FunFrames X.base X.stack := by
  rcases I.ok.stk with e | ⟨e, hf⟩
  · rw [e]; exact I.funs
  · rw [e]
    obtain ⟨m, hn, _⟩ := I.loc
    refine .cons (by rw [I.ok.kind]; decide) hf hn ?_ I.funs
    exact Heap.get?_none_of_le (Nat.le_trans I.ok.bsz I.ok.above)
theorem Inv.stkSub (I : Inv X pins σ H s) : ∀ b ∈ frs X.stack, b ∈ X.env.locals :: X.fs := fun b hb => by
  rcases I.ok.stk with e | ⟨e, hf⟩
  · rw [e] at hb; exact List.mem_cons_of_mem _ hb
  · rw [e] at hb
    unfold frs at hb
    rw [List.filterMap_cons, hf] at hb
    exact hb
theorem Inv.stkFree (I : Inv X pins σ H s) : ∀ b ∈ frs X.stack, H b = none := fun b hb => by
  rcases List.mem_cons.mp (I.stkSub b hb) with e | hb
  · rw [e]; exact I.free
  · obtain ⟨_, o, ho, _⟩ := I.ok.funs.mem hb
    exact I.base.free b o ho (I.ok.frf b hb) fun z => I.ok.exfs b z hb

/-- THE STEP: the untracked objects but the frame and the records at ch are kept (the callers' frames up to slots), the frame's map is kept, the new abstract heap is held -/
theorem Inv.step {g' : Array GenState} {t' : Nat} {d' : Drawn} {ch : List Addr} (I : Inv X pins σ H s)
    (hch : ∀ b ∈ ch, (b ∈ X.ex ∨ X.s₀.heap.objs.size ≤ b) ∧ b ≠ X.env.locals ∧ (∀ x c, X.env.cells.lookup x = some c → c ≠ b) ∧ ∀ p ∈ X.pn ++ pins, p.1 ≠ b)
    (keep : ∀ b o, b ≠ X.env.locals → b ∉ X.fs → b ∉ ch → s.heap.get? b = some o → H b = none → h'.get? b = some o)
    (slot : ∀ b o, b ≠ X.env.locals → b ∈ X.fs → b ∉ ch → s.heap.get? b = some o → H b = none → ∃ sl, h'.get? b = some { o with slots := sl }) (free : ∀ b o, b ∉ ch → s.heap.get? b = some o → H b = none → H' b = none)
    (there : ∀ b o, b ∉ ch → s.heap.get? b = some o → ∃ o', h'.get? b = some o')
    (tups : ∀ b xs, H b = some (.tup xs) → H' b = some (.tup xs)) (frzs : ∀ b o u, H b = some (.frz o u) → H' b = some (.frz o u)) (tbls : ∀ b ps, H b = some (.tbl ps) → ∃ more, H' b = some (.tbl (ps ++ more)))
    (ns : ∀ m, s.heap.Ns X.env.locals m → h'.Ns X.env.locals m) (hok : HOk X.prog X.w H' h') (hg : AllBare g') :
    Inv X pins σ H' { s with heap := h', gens := g', drawn := d', toks := t' } := by
  have neL : ∀ b o, X.s₀.heap.get? b = some o → b ≠ X.env.locals := fun b o e => Nat.ne_of_lt (Nat.lt_of_lt_of_le (Heap.lt_size e) I.ok.above)
  have neC : ∀ b o, X.s₀.heap.get? b = some o → b ∉ X.ex → b ∉ ch := fun b o e hx hb => by
    rcases (hch b hb).1 with z | z
    · exact hx z
    · exact absurd (Nat.lt_of_lt_of_le (Heap.lt_size e) z) (Nat.lt_irrefl _)
  have cellK : ∀ x c, X.env.cells.lookup x = some c → ∀ v, s.heap.IsCell c v → h'.IsCell c v := fun x c e v ⟨o, ho, hd⟩ => by
    have nch : c ∉ ch := fun z => (hch c z).2.2.1 x c e rfl
    by_cases hc : c ∈ X.fs
    · obtain ⟨sl, q⟩ := slot c o (I.cne x c e) hc nch ho (I.freeC x c e)
      exact ⟨_, q, hd⟩
    · exact ⟨o, keep c o (I.cne x c e) hc nch ho (I.freeC x c e), hd⟩
  refine ⟨I.ok, I.os, hg, ⟨fun b o e n hb hx => ?_, fun b o e n hb hx => ?_, fun b o e n hx => ?_, fun b o e hx => ?_, fun b xs e => tups b xs (I.base.tups b xs e), fun b o xs e => frzs b o xs (I.base.frzs b o xs e), fun b ps e => ?_⟩, ?_, fun x c e => ?_, ?_, fun x c e => ?_, fun p hp => ?_, hok, I.len⟩
  · exact keep b o (neL b o e) hb (neC b o e hx) (I.base.keep b o e n hb hx) (I.base.free b o e n hx)
  · obtain ⟨sl, e1⟩ := I.base.slot b o e n hb hx
    obtain ⟨sl', e2⟩ := slot b _ (neL b o e) hb (neC b o e hx) e1 (I.base.free b o e n hx)
    exact ⟨sl', e2⟩
  · obtain ⟨o', e1⟩ := I.base.there b o e hx
    exact free b o' (neC b o e hx) e1 (I.base.free b o e n hx)
  · obtain ⟨o', e1⟩ := I.base.there b o e hx
    exact there b o' (neC b o e hx) e1
  · obtain ⟨m1, e1⟩ := I.base.tbls b ps e
    obtain ⟨m2, e2⟩ := tbls b _ e1
    exact ⟨m1 ++ m2, by rw [e2, Array.append_assoc]⟩
  · obtain ⟨m, hn, hl⟩ := I.loc
    refine ⟨m, ns m hn, fun i x v e1 e2 e3 => ?_⟩
    obtain ⟨u, r, l⟩ := hl i x v e1 e2 e3
    refine ⟨u, r, ?_⟩
    rcases l with l | ⟨k, c, e, z⟩
    · exact .inl l
    · exact .inr ⟨k, c, e, cellK x c e _ z⟩
  · obtain ⟨v, z⟩ := I.cell x c e
    exact ⟨v, cellK x c e v z⟩
  · obtain ⟨m, ⟨o, _, _, ho, _⟩, _⟩ := I.loc
    exact free _ o (fun z => (hch _ z).2.1 rfl) ho I.free
  · obtain ⟨v, o, ho, hd⟩ := I.cell x c e
    exact free c o (fun z => (hch c z).2.2.1 x c e rfl) ho (I.freeC x c e)
  · obtain ⟨e, n, ne, nf, d⟩ := I.pin p hp
    have nch : p.1 ∉ ch := fun z => (hch p.1 z).2.2.2 p hp rfl
    exact ⟨keep p.1 p.2 ne nf nch e n, free p.1 p.2 nch e n, ne, nf, d⟩
/-- .. where the frame's own object is kept too -/
theorem Inv.un {t' : Nat} (I : Inv X pins σ H s) (u : Un X.fs [] H H' s.heap h') (hok : HOk X.prog X.w H' h') : Inv X pins σ H' { s with heap := h', toks := t' } := by
  obtain ⟨m, ⟨o, es, ep, ho, r⟩, _⟩ := id I.loc
  obtain ⟨sl, hL⟩ := u.any ho I.free (by simp)
  exact I.step (g' := s.gens) (d' := s.drawn) (ch := []) (fun _ z => nomatch z) (fun b o _ hb _ e n => u.keep b o e n hb (by simp)) (fun b o _ hb _ e n => u.slot b o e n hb (by simp)) (fun b o _ e n => u.free b o e n (by simp)) (fun b o _ e => u.there b o e (by simp)) u.tups u.frzs u.tbls (fun m' hm => by
    obtain ⟨o', es', ep', ho', r'⟩ := hm
    rw [ho] at ho'; cases ho'
    exact ⟨_, es', ep', hL, r'⟩) hok I.bare
/-- behind a call (or a comprehension's block): the slots of this frame may have changed too, the records at ch may have turned -/
theorem Inv.call {g' : Array GenState} {t' : Nat} {d' : Drawn} {ch : List Addr} (I : Inv X pins σ H s) (u : Un (frs X.stack) ch H H' s.heap h') (hok : HOk X.prog X.w H' h') (hg : AllBare g')
    (hch : ∀ b ∈ ch, (b ∈ X.ex ∨ X.s₀.heap.objs.size ≤ b) ∧ b ≠ X.env.locals ∧ (∀ x c, X.env.cells.lookup x = some c → c ≠ b) ∧ ∀ p ∈ X.pn ++ pins, p.1 ≠ b) :
    Inv X pins σ H' { s with heap := h', gens := g', drawn := d', toks := t' } := by
  obtain ⟨m, ⟨o, es, ep, ho, r⟩, _⟩ := id I.loc
  obtain ⟨sl, hL⟩ := u.any ho I.free fun z => (hch _ z).2.1 rfl
  exact I.step (ch := ch) hch (fun b o hL hb hc e n => u.keep b o e n (fun z => (List.mem_cons.mp (I.stkSub b z)).elim hL hb) hc) (fun b o _ _ hc e n => u.any e n hc) (fun b o hc e n => u.free b o e n hc) (fun b o hc e => u.there b o e hc) u.tups u.frzs u.tbls (fun m' hm => by
    obtain ⟨o', es', ep', ho', r'⟩ := hm
    rw [ho] at ho'; cases ho'
    exact ⟨_, es', ep', hL, r'⟩) hok hg
/-- an untracked record of ours (an iterator) has turned -/
theorem Inv.turned {t' : Nat} {it : Addr} (I : Inv X pins σ H s) (k : ∀ b o, b ≠ it → s.heap.get? b = some o → h'.get? b = some o) (hn : H it = none) (hL : it ≠ X.env.locals)
    (h1 : it ∈ X.ex ∨ X.s₀.heap.objs.size ≤ it) (h2 : ∀ x c, X.env.cells.lookup x = some c → c ≠ it) (h3 : ∀ p ∈ X.pn ++ pins, p.1 ≠ it) : Inv X pins σ H { s with heap := h', toks := t' } := by
  have nit : ∀ b u, H b = some u → b ≠ it := fun b u e z => by rw [z, hn] at e; cases e
  refine I.step (g' := s.gens) (d' := s.drawn) (ch := [it]) (fun b hb => ?_) (fun b o _ _ hc e _ => k b o (fun z => hc (by simp [z])) e) (fun b o _ _ hc e _ => ⟨o.slots, k b o (fun z => hc (by simp [z])) e⟩) (fun _ _ _ _ n => n)
    (fun b o hc e => ⟨o, k b o (fun z => hc (by simp [z])) e⟩) (fun _ _ e => e) (fun _ _ _ e => e) (fun b ps e => ⟨#[], by rw [e]; simp⟩) (fun m hm => ?_) (fun b u e => ?_) I.bare
  · have e : b = it := by simpa using hb
    subst e
    exact ⟨h1, hL, h2, h3⟩
  · obtain ⟨o, es, ep, ho, r⟩ := hm
    exact ⟨o, es, ep, k _ o (Ne.symm hL) ho, r⟩
  · refine (I.hok b u e).stay (fun c v hc q => k c v ?_ q) (fun _ q => q) fun _ _ q => q
    rcases hc with z | z
    · rw [z]; exact nit b u e
    · exact nit c _ z
theorem Inv.tok (I : Inv X pins σ H s) (t : Nat) : Inv X pins σ H { s with toks := t } := I.un (h' := s.heap) (t' := t) Un.refl I.hok
/-- all objects kept -/
theorem Inv.kept {t' : Nat} (I : Inv X pins σ H s) (k : ∀ b u, s.heap.get? b = some u → h'.get? b = some u) : Inv X pins σ H { s with heap := h', toks := t' } := I.un (Un.kept k) (I.hok.kept k)
/-- a new object laid and tracked -/
theorem Inv.laid {a : Addr} {o : HO} {t' : Nat} (I : Inv X pins σ H s) (k : ∀ b u, s.heap.get? b = some u → h'.get? b = some u) (hp : s.heap.objs.size ≤ a) (new : ObjOk X.prog X.w (upd H a o) h' a o) :
    Inv X pins σ (upd H a o) { s with heap := h', toks := t' } := I.un (Un.laid k hp (I.hok.fresh hp)) (I.hok.laid k hp new)
/-- an object written -/
theorem Inv.write {x e : Addr} {o : HO} {t' : Nat} (I : Inv X pins σ H s) (mu : Mut (H x)) (he : e = x ∨ H e = some (.own x)) (k : ∀ b u, b ≠ e → s.heap.get? b = some u → h'.get? b = some u) (heo : ∃ u, h'.get? e = some u)
    (new : ObjOk X.prog X.w (upd H x o) h' x o) : Inv X pins σ (upd H x o) { s with heap := h', toks := t' } := I.un (Un.write mu he k heo) (I.hok.write mu he k heo new)
theorem Inv.pins_of {pins' : List (Addr × Obj)} (I : Inv X pins σ H s) (h : ∀ p ∈ pins', s.heap.get? p.1 = some p.2 ∧ H p.1 = none ∧ p.1 ≠ X.env.locals ∧ p.1 ∉ X.fs ∧ ∀ v, p.2.data ≠ .cell v) : Inv X pins' σ H s :=
  ⟨I.ok, I.os, I.bare, I.base, I.loc, I.cell, I.free, I.freeC, fun p hp => (List.mem_append.mp hp).elim (fun z => I.pin p (List.mem_append_left _ z)) (h p), I.hok, I.len⟩

theorem nodup_ix {N : List Str} (hN : N.Nodup) {i j : Nat} {x : Str} (a : N[i]? = some x) (b : N[j]? = some x) : i = j := by
  obtain ⟨h1, e1⟩ := List.getElem?_eq_some_iff.mp a
  obtain ⟨h2, e2⟩ := List.getElem?_eq_some_iff.mp b
  exact (List.getElem_inj hN).mp (e1.trans e2.symm)

/-- a name is stored; what changed -/
theorem store_ok2 {M : Model} {A : Around} {E : Value → Shared → Prop} {i : Nat} {x : Str} {v : V} {u : Value} {Q : Unit → Shared → Prop} (I : Inv X pins σ H s) (hN : X.N.Nodup) (hi : X.N[i]? = some x) (hx : Loc X.env.scope x) (r : RelV v u)
    (h : ∀ s', Inv X pins (σ.set i (some v)) H s' → (∃ a, Heap.SameBut a s.heap s'.heap ∧ (a = X.env.locals ∨ X.env.cells.lookup x = some a)) → Q () s') (hf : X.fn x = true ∨ X.env.scope.names.lookup x = some .local := by first | exact .inl rfl | exact .inr rfl | assumption) : wpAny M A (storeName X.env x u) Q E s := by
  obtain ⟨m, hn, hl⟩ := id I.loc
  have hcls : (X.env.scope.kind == .class || (X.env.scope.kind == .module && X.env.locals != X.env.globals)) = false := by rw [I.ok.kind]; rfl
  have hiσ : i < σ.length := by rw [I.len]; exact (List.getElem?_eq_some_iff.mp hi).1
  have cne := I.cne
  have tracked : ∀ {a : Addr} {h' : Heap}, (∃ o, s.heap.get? a = some o ∧ H a = none) → Heap.SameBut a s.heap h' → HOk X.prog X.w H h' := fun {a h'} ha hs b ob e => by
    obtain ⟨_, _, hfree⟩ := ha
    refine (I.hok b ob e).stay (fun c w' hc q => (hs.2 c ?_).trans q) (fun _ q => q) fun _ _ q => q
    rintro rfl
    rcases hc with rfl | hc
    · rw [hfree] at e; cases e
    · rw [hfree] at hc; cases hc
  rcases hx with hk | hk
  · refine wpAny_storeName_local hk hn (fun h' hn' hs => ?_) hcls
    obtain ⟨oL, _, _, hoL, _⟩ := id hn
    refine h _ ⟨I.ok, I.os, I.bare, ⟨fun b o e n hb hx => ?_, fun b o e n hb hx => ?_, I.base.free, fun b o e hx => ?_, I.base.tups, I.base.frzs, I.base.tbls⟩, ⟨_, hn', fun j y v' e1 e2 e3 => ?_⟩, fun y c e => ?_, I.free, I.freeC, fun p hp => ?_, tracked ⟨oL, hoL, I.free⟩ hs, by simpa using I.len⟩ ⟨_, hs, .inl rfl⟩
    · exact (hs.2 b (Nat.ne_of_lt (Nat.lt_of_lt_of_le (Heap.lt_size e) I.ok.above))).trans (I.base.keep b o e n hb hx)
    · obtain ⟨sl, e1⟩ := I.base.slot b o e n hb hx
      exact ⟨sl, (hs.2 b (Nat.ne_of_lt (Nat.lt_of_lt_of_le (Heap.lt_size e) I.ok.above))).trans e1⟩
    · obtain ⟨o', e1⟩ := I.base.there b o e hx
      exact ⟨o', (hs.2 b (Nat.ne_of_lt (Nat.lt_of_lt_of_le (Heap.lt_size e) I.ok.above))).trans e1⟩
    · by_cases hj : j = i
      · subst hj
        rw [hi] at e1; cases e1
        rw [List.getElem?_set_self hiσ] at e2
        cases e2
        exact ⟨u, r, .inl ⟨hk, by simp⟩⟩
      · rw [List.getElem?_set_ne (Ne.symm hj)] at e2
        obtain ⟨u', r', q⟩ := hl j y v' e1 e2 e3
        refine ⟨u', r', ?_⟩
        rcases q with ⟨k, e⟩ | ⟨k, c, e, z⟩
        · refine .inl ⟨k, ?_⟩
          have : y ≠ x := fun e => hj (nodup_ix hN e1 (e ▸ hi))
          simp [this, e]
        · exact .inr ⟨k, c, e, z.sameBut hs (cne y c e)⟩
    · obtain ⟨w', z⟩ := I.cell y c e
      exact ⟨w', z.sameBut hs (cne y c e)⟩
    · obtain ⟨e, n, ne, nf, d⟩ := I.pin p hp
      exact ⟨(hs.2 p.1 ne).trans e, n, ne, nf, d⟩
  · have hfn : X.fn x = true := by
      rcases hf with z | z
      · exact z
      · rw [z] at hk; cases hk
    obtain ⟨c, hc⟩ := I.ok.has x (.inl hk)
    obtain ⟨w', z⟩ := I.cell x c hc
    refine wpAny_storeName_cell I.ok.kind hk hc z (fun h' hc' hs => ?_)
    obtain ⟨oc, hoc, hocd⟩ := id z
    refine h { s with heap := h' } ⟨I.ok, I.os, I.bare, ⟨fun b o e n hb hx => ?_, fun b o e n hb hx => ?_, I.base.free, fun b o e hx => ?_, I.base.tups, I.base.frzs, I.base.tbls⟩, ⟨m, hn.sameBut hs (Ne.symm (cne x c hc)), fun j y v' e1 e2 e3 => ?_⟩, fun y c' e => ?_, I.free, I.freeC, fun p hp => ?_, tracked ⟨oc, hoc, I.freeC x c hc⟩ hs, by simpa using I.len⟩ ⟨c, hs, .inr hc⟩
    · exact (hs.2 b (Nat.ne_of_lt (Nat.lt_of_lt_of_le (Heap.lt_size e) (I.ok.cab x c hfn hc)))).trans (I.base.keep b o e n hb hx)
    · obtain ⟨sl, e1⟩ := I.base.slot b o e n hb hx
      exact ⟨sl, (hs.2 b (Nat.ne_of_lt (Nat.lt_of_lt_of_le (Heap.lt_size e) (I.ok.cab x c hfn hc)))).trans e1⟩
    · obtain ⟨o', e1⟩ := I.base.there b o e hx
      exact ⟨o', (hs.2 b (Nat.ne_of_lt (Nat.lt_of_lt_of_le (Heap.lt_size e) (I.ok.cab x c hfn hc)))).trans e1⟩
    · by_cases hj : j = i
      · subst hj
        rw [hi] at e1; cases e1
        rw [List.getElem?_set_self hiσ] at e2
        cases e2
        exact ⟨u, r, .inr ⟨.inl hk, c, hc, hc'⟩⟩
      · rw [List.getElem?_set_ne (Ne.symm hj)] at e2
        obtain ⟨u', r', q⟩ := hl j y v' e1 e2 e3
        refine ⟨u', r', ?_⟩
        rcases q with q | ⟨k, c', e, z'⟩
        · exact .inl q
        · refine .inr ⟨k, c', e, z'.sameBut hs ?_⟩
          rintro rfl
          exact hj (nodup_ix hN e1 (I.ok.inj _ _ _ e hc ▸ hi))
    · by_cases hcc : c' = c
      · subst hcc; exact ⟨_, hc'⟩
      · obtain ⟨w2, z2⟩ := I.cell y c' e
        exact ⟨w2, z2.sameBut hs hcc⟩
    · obtain ⟨e, n, ne, nf, d⟩ := I.pin p hp
      refine ⟨(hs.2 p.1 ?_).trans e, n, ne, nf, d⟩
      intro q
      rw [q, hoc] at e
      have q' : oc = p.2 := Option.some.inj e
      exact d w' (by rw [← q']; exact hocd)
theorem store_ok {M : Model} {A : Around} {E : Value → Shared → Prop} {i : Nat} {x : Str} {v : V} {u : Value} {Q : Unit → Shared → Prop} (I : Inv X pins σ H s) (hN : X.N.Nodup) (hi : X.N[i]? = some x) (hx : Loc X.env.scope x) (r : RelV v u)
    (h : ∀ s', Inv X pins (σ.set i (some v)) H s' → Q () s') (hf : X.fn x = true ∨ X.env.scope.names.lookup x = some .local := by first | exact .inl rfl | exact .inr rfl | assumption) : wpAny M A (storeName X.env x u) Q E s :=
  store_ok2 I hN hi hx r (fun s' I' _ => h s' I') hf
/-- behind a call or a block, the state as it is -/
theorem Inv.call' {s' : Shared} {ch : List Addr} (I : Inv X pins σ H s) (ho : s'.os = s.os) (u : Un (frs X.stack) ch H H' s.heap s'.heap) (hok : HOk X.prog X.w H' s'.heap) (hg : AllBare s'.gens)
    (hch : ∀ b ∈ ch, (b ∈ X.ex ∨ X.s₀.heap.objs.size ≤ b) ∧ b ≠ X.env.locals ∧ (∀ x c, X.env.cells.lookup x = some c → c ≠ b) ∧ ∀ p ∈ X.pn ++ pins, p.1 ≠ b) : Inv X pins σ H' s' := by
  obtain ⟨h', g', d', t', o'⟩ := s'
  have e : o' = s.os := ho
  subst e
  exact I.call (g' := g') (t' := t') (d' := d') u hok hg hch
end

/-! ### the judgements -/
/-- an exception: its class, its own dict's address (where it has one), the abstract heap behind it -/
noncomputable abbrev XK := Value → Option Addr → Hp → Prop
noncomputable abbrev St := List (Option V)
noncomputable abbrev VK := V → Hp → Prop
/-- an expression's reading; a test's; an argument list's -/
noncomputable abbrev TE := St → Hp → VK → Prop
noncomputable abbrev TT := St → Hp → (Bool → Hp → Prop) → Prop
noncomputable abbrev TA := St → Hp → (List V → Hp → Prop) → Prop
/-- what is wanted behind a statement -/
structure Ends where
  nx : St → Hp → Prop
  rt : VK
  bk : St → Hp → Prop := fun _ _ => False
  ct : St → Hp → Prop := fun _ _ => False
noncomputable abbrev TS := Ends → St → Hp → Prop

noncomputable def EP (X : Cx) (pins : List (Addr × Obj)) (σ : St) (Q : VK) (u : Value) (s' : Shared) : Prop := ∃ v H', Inv X pins σ H' s' ∧ RelV v u ∧ Q v H'
noncomputable def TP (X : Cx) (pins : List (Addr × Obj)) (σ : St) (Q : Bool → Hp → Prop) (b : Bool) (s' : Shared) : Prop := ∃ H', Inv X pins σ H' s' ∧ Q b H'
noncomputable def AP (X : Cx) (pins : List (Addr × Obj)) (σ : St) (Q : List V → Hp → Prop) (us : List Value) (s' : Shared) : Prop := ∃ vs H', Inv X pins σ H' s' ∧ Vals vs us ∧ Q vs H'
noncomputable def SP (X : Cx) (pins : List (Addr × Obj)) (D : Ends) (f : Flow) (s' : Shared) : Prop :=
  match f with
  | .next => ∃ σ' H', Inv X pins σ' H' s' ∧ D.nx σ' H'
  | .brk => ∃ σ' H', Inv X pins σ' H' s' ∧ D.bk σ' H'
  | .cont => ∃ σ' H', Inv X pins σ' H' s' ∧ D.ct σ' H'
  | .ret u => ∃ v σ' H', Inv X pins σ' H' s' ∧ RelV v u ∧ D.rt v H'

noncomputable def PE (X : Cx) (e : Expr) (t : TE) : Prop :=
  ∀ (pins : List (Addr × Obj)) (s : Shared) (σ : St) (H : Hp) (Q : VK), Inv X pins σ H s → t σ H Q → wpAny (model X.prog X.w) X.A (eval e X.env) (EP X pins σ Q) X.xe s
noncomputable def PT (X : Cx) (e : Expr) (t : TT) : Prop :=
  ∀ (pins : List (Addr × Obj)) (s : Shared) (σ : St) (H : Hp) (Q : Bool → Hp → Prop), Inv X pins σ H s → t σ H Q → wpAny (model X.prog X.w) X.A (isTrue e X.env (eval e X.env)) (TP X pins σ Q) X.xe s
/-- a test whatever its 'whole' is (and, or) -/
noncomputable def PW (X : Cx) (e : Expr) (t : TT) : Prop :=
  ∀ (whole : Sem Value) (pins : List (Addr × Obj)) (s : Shared) (σ : St) (H : Hp) (Q : Bool → Hp → Prop), Inv X pins σ H s → t σ H Q → wpAny (model X.prog X.w) X.A (isTrue e X.env whole) (TP X pins σ Q) X.xe s
theorem PW.pt {X : Cx} {e : Expr} {t : TT} (h : PW X e t) : PT X e t := h _
/-- an argument list (no star), from the left -/
noncomputable def PA (X : Cx) (es : List Expr) (t : TA) : Prop :=
  ∀ (pos : Pos) (pins : List (Addr × Obj)) (s : Shared) (σ : St) (H : Hp) (Q : List V → Hp → Prop), Inv X pins σ H s → t σ H Q → wpAny (model X.prog X.w) X.A (spliced (backTo pos (starEach es X.env))) (AP X pins σ Q) X.xe s
noncomputable def PS (X : Cx) (st : Stmt) (t : TS) : Prop :=
  ∀ (pins : List (Addr × Obj)) (s : Shared) (σ : St) (H : Hp) (D : Ends), Inv X pins σ H s → t D σ H → wpAny (model X.prog X.w) X.A (exec st X.env) (SP X pins D) X.xe s
noncomputable def PSs (X : Cx) (st : List Stmt) (t : TS) : Prop :=
  ∀ (pins : List (Addr × Obj)) (s : Shared) (σ : St) (H : Hp) (D : Ends), Inv X pins σ H s → t D σ H → wpAny (model X.prog X.w) X.A (execs st X.env) (SP X pins D) X.xe s
/-- weaken the end -/
theorem thn {α : Type} {t : Sem α} {Q Q' : α → Shared → Prop} {M : Model} {A : Around} {E : Value → Shared → Prop} {s : Shared} (h : wpAny M A t Q E s) (hQ : ∀ a s, Q a s → Q' a s) : wpAny M A t Q' E s := wpAny_mono h hQ fun _ _ x => x
end L2

namespace L2
open PySem PySem.Spec PyProof.Rows
section
variable {X : Cx}

/-- two expressions in a row -/
theorem bin {a b : Expr} {ta tb : TE} (ha : PE X a ta) (hb : PE X b tb) {pins : List (Addr × Obj)} {s : Shared} {σ : St} {H : Hp} {R : V → V → Hp → Prop} (I : Inv X pins σ H s) (h : ta σ H fun x H1 => tb σ H1 fun y H2 => R x y H2)
    {α : Type} {Q : α → Shared → Prop} {f : Value → Value → Sem α}
    (hf : ∀ v u s2 x y H2, Inv X pins σ H2 s2 → RelV x v → RelV y u → R x y H2 → wpAny (model X.prog X.w) X.A (f v u) Q X.xe s2) :
    wpAny (model X.prog X.w) X.A (eval a X.env) (fun v s₁ => wpAny (model X.prog X.w) X.A (eval b X.env) (fun u s₂ => wpAny (model X.prog X.w) X.A (f v u) Q X.xe s₂) X.xe s₁) X.xe s := by
  refine thn (ha pins s σ H _ I h) fun v s1 ⟨x, H1, I1, r1, q1⟩ => ?_
  refine thn (hb pins s1 σ H1 _ I1 q1) fun u s2 ⟨y, H2, I2, r2, q2⟩ => ?_
  exact hf v u s2 x y H2 I2 r1 r2 q2

/-! ### names and constants -/
noncomputable def tVar (i : Nat) : TE := fun σ H Q => ∃ v, σ[i]? = some (some v) ∧ Q v H
noncomputable def tC (v : V) : TE := fun _ H Q => Q v H
theorem pe_var {i : Nat} {x : Str} {pos : Pos} (hN : X.N[i]? = some x) (hv : Vis X.env.scope x) (hd : (x == ("__debug__" : Str)) = false := by decide) (hcd : (x == ("__classdict__" : Str)) = false := by decide) : PE X (.Name x pos) (tVar i) := by
  intro pins s σ H Q I h
  obtain ⟨v, e, h⟩ := h
  obtain ⟨m, hn, hl⟩ := I.loc
  obtain ⟨u, r, l⟩ := hl i x v hN e hv
  have fin : EP X pins σ Q u s := ⟨v, H, I, r, h⟩
  rcases l with ⟨hk, hm⟩ | ⟨hk, c, hc, hcell⟩
  · exact wpAny_Name (wpAny_loadName_local I.ok.kind hk hn hm fin) hd
  · rcases hk with hk | hk
    · exact wpAny_Name (wpAny_loadName_cell I.ok.kind hk hc hcell fin) hd
    · exact wpAny_Name (wpAny_loadName_free I.ok.kind hk hc hcell fin hcd) hd
theorem pe_int {i j pos} : PE X (.Constant (.int i) j pos) (tC (.int i)) := fun _ _ _ H _ I h => wpAny_Constant_int ⟨.int i, H, I.tok _, ⟨_, rfl⟩, h⟩
theorem pe_bl {b j pos} : PE X (.Constant (.bool b) j pos) (tC (.bl b)) := fun _ _ _ H _ I h => Constant_bool ⟨.bl b, H, I, rfl, h⟩
theorem pe_non {j pos} : PE X (.Constant .none j pos) (tC .non) := fun _ _ _ H _ I h => Constant_none ⟨.non, H, I, rfl, h⟩

/-- a global name of the def -/
noncomputable def Gl (X : Cx) (x : Str) : Prop := X.env.kindOf x = some .globalImplicit
theorem ld_glob {E : Value → Shared → Prop} {pins : List (Addr × Obj)} {s : Shared} {σ : St} {H : Hp} {x : Str} {u : Value} {pos : Pos} {Q : Value → Shared → Prop} (I : Inv X pins σ H s) (hg : Gl X x) (hm : X.mg x = some u) (h : Q u s)
    (hd : (x == ("__debug__" : Str)) = false := by decide) : wpAny (model X.prog X.w) X.A (eval (.Name x pos) X.env) Q E s :=
  Calls.Name_function_global I.ok.kind hg (Calls.loadGlobal_global (by rw [I.ok.glob]; exact I.mod.glob.keeps I.bk) hm h) hd
theorem ld_blt {E : Value → Shared → Prop} {pins : List (Addr × Obj)} {s : Shared} {σ : St} {H : Hp} {x : Str} {u : Value} {pos : Pos} {Q : Value → Shared → Prop} (I : Inv X pins σ H s) (hg : Gl X x) (hm : X.mg x = none) (hv : bootBuiltins x = some u) (h : Q u s)
    (hn : x ≠ "__name__" := by decide) (hd : (x == ("__debug__" : Str)) = false := by decide) : wpAny (model X.prog X.w) X.A (eval (.Name x pos) X.env) Q E s := by
  obtain ⟨mb, h1, h2⟩ := I.mod.blt
  exact Calls.Name_function_global I.ok.kind hg (Calls.loadGlobal_builtin (by rw [I.ok.glob]; exact I.mod.glob.keeps I.bk) hm (by rw [I.ok.blt]; exact h1.keeps I.bk) ((h2 x hn).trans hv) h) hd
theorem pe_bltn {x : Str} {v : V} {u : Value} {pos : Pos} (hg : Gl X x) (hm : X.mg x = none) (hv : bootBuiltins x = some u) (r : RelV v u) (hn : x ≠ "__name__" := by decide) (hd : (x == ("__debug__" : Str)) = false := by decide) : PE X (.Name x pos) (tC v) :=
  fun _ _ _ H _ I h => ld_blt I hg hm hv ⟨v, H, I, r, h⟩ hn hd

/-! ### arithmetic -/
variable {a b : Expr} {ta tb : TE} {pos : Pos}

/-! ### comparisons -/

/-! ### and, or, not -/
variable {tA tB' : TT} {rest : List Expr}
noncomputable def tAnd (t u : TT) : TT := fun σ H Q => t σ H fun c H1 => if c = true then u σ H1 Q else Q false H1
noncomputable def tOr (t u : TT) : TT := fun σ H Q => t σ H fun c H1 => if c = true then Q true H1 else u σ H1 Q
noncomputable def tNot (t : TT) : TT := fun σ H Q => t σ H fun c H1 => Q (!c) H1
theorem pw_and1 (ha : PT X a tA) : PW X (.BoolOp .And [a] pos) tA := by
  intro wh pins s σ H Q I h
  refine isTrue_and (thn (ha pins s σ H Q I h) fun c s1 e => ?_)
  cases c with
  | true => exact isTrue_and_nil e
  | false => exact e
theorem pw_or1 (ha : PT X a tA) : PW X (.BoolOp .Or [a] pos) tA := by
  intro wh pins s σ H Q I h
  refine isTrue_or (thn (ha pins s σ H Q I h) fun c s1 e => ?_)
  cases c with
  | false => exact isTrue_or_nil e
  | true => exact e
theorem pw_and (ha : PT X a tA) (hb : PW X (.BoolOp .And (b :: rest) pos) tB') : PW X (.BoolOp .And (a :: b :: rest) pos) (tAnd tA tB') := by
  intro wh pins s σ H Q I h
  refine isTrue_and (thn (ha pins s σ H _ I h) fun c s1 ⟨H1, I1, q1⟩ => ?_)
  cases c with
  | true => exact hb wh pins s1 σ H1 Q I1 q1
  | false => exact ⟨H1, I1, q1⟩
theorem pw_or (ha : PT X a tA) (hb : PW X (.BoolOp .Or (b :: rest) pos) tB') : PW X (.BoolOp .Or (a :: b :: rest) pos) (tOr tA tB') := by
  intro wh pins s σ H Q I h
  refine isTrue_or (thn (ha pins s σ H _ I h) fun c s1 ⟨H1, I1, q1⟩ => ?_)
  cases c with
  | true => exact ⟨H1, I1, q1⟩
  | false => exact hb wh pins s1 σ H1 Q I1 q1
theorem pt_not (ha : PT X a tA) : PT X (.UnaryOp .Not a pos) (tNot tA) := by
  intro pins s σ H Q I h
  exact isTrue_not (ha pins s σ H (fun c H1 => Q (!c) H1) I h)
/-- .. as values (bools) -/
noncomputable def tAndV (ta tb : TE) : TE := fun σ H Q => ta σ H fun x H1 => ∃ c, x = .bl c ∧ if c = true then tb σ H1 Q else Q (.bl false) H1
theorem pe_one {op} {t : TE} (h : PE X a t) : PE X (.BoolOp op [a] pos) t := fun pins s σ H Q I hw => BoolOp_one (h pins s σ H Q I hw)
theorem pe_and (ha : PE X a ta) (hb : PE X (.BoolOp .And (b :: rest) pos) tb) : PE X (.BoolOp .And (a :: b :: rest) pos) (tAndV ta tb) := by
  intro pins s σ H Q I h
  refine BoolOp_and (thn (ha pins s σ H _ I h) fun v s1 ⟨x, H1, I1, r1, q1⟩ => ?_)
  obtain ⟨c, rfl, q1⟩ := q1
  cases r1
  refine wpAny_truthy_bool ?_
  cases c with
  | true => exact hb pins s1 σ H1 Q I1 q1
  | false => exact ⟨.bl false, H1, I1, rfl, q1⟩
end
end L2

namespace L2
open PySem PySem.Spec PyProof.Rows

/-! ### a list, a tuple that is read: tracked, frozen, or an object of the module -/
noncomputable def SqL (K : PySem.W.Frag) (H : Hp) (a : Addr) (xs : List V) : Prop :=
  Rd H a (.lst xs) ∨
    ∃ (o : Obj) (its : Array Value) (n : Nat), K.lookup a = some o ∧ o.cls = .type "list" ∧ o.dict = none ∧ o.data = .seq its n ∧ its.size ≤ sizeLine ∧ Vals xs its.toList
noncomputable def SqT (K : PySem.W.Frag) (H : Hp) (a : Addr) (xs : List V) : Prop :=
  Rd H a (.tup xs) ∨
    ∃ (o : Obj) (its : Array Value) (n : Nat), K.lookup a = some o ∧ o.cls = .type "tuple" ∧ o.data = .seq its n ∧ its.size ≤ sizeLine ∧ Vals xs its.toList
noncomputable def absV : Value → Option V
  | .none => some .non
  | .bool b => some (.bl b)
  | .int i _ => some (.int i)
  | .str x _ => some (.str x)
  | .bytes b _ => some (.byt b)
  | .float b _ => some (.flt b)
  | .ref a => some (.ref a)
  | .type n => some (.ty n)
  | _ => none
theorem RelV.abs {x : V} {u : Value} (r : RelV x u) : absV u = some x := by
  cases x with
  | non => cases r; rfl
  | bl _ => cases r; rfl
  | int _ => obtain ⟨t, rfl⟩ := r; rfl
  | str _ => obtain ⟨t, rfl⟩ := r; rfl
  | byt _ => obtain ⟨t, rfl⟩ := r; rfl
  | flt _ => obtain ⟨t, rfl⟩ := r; rfl
  | ref _ => cases r; rfl
  | ty _ => cases r; rfl
theorem RelV.inj {x y : V} {u : Value} (r : RelV x u) (q : RelV y u) : x = y := Option.some.inj (r.abs.symm.trans q.abs)
theorem Vals.inj : ∀ {xs ys : List V} {us : List Value}, Vals xs us → Vals ys us → xs = ys
  | _, _, _, .nil, .nil => rfl
  | _, _, _, .cons r t, .cons r' t' => by rw [r.inj r', Vals.inj t t']
section
variable {X : Cx} {pins : List (Addr × Obj)} {σ : St} {H : Hp} {s : Shared} {a : Addr} {xs ys : List V}
theorem SqL.of {K : PySem.W.Frag} (h : H a = some (.lst xs)) : SqL K H a xs := .inl (.inl h)
theorem SqT.of {K : PySem.W.Frag} (h : H a = some (.tup xs)) : SqT K H a xs := .inl (.inl h)
theorem Inv.list (I : Inv X pins σ H s) (h : SqL X.K H a xs) : ∃ its : List Value, Vals xs its ∧ PlainL s.heap a its.toArray ∧ xs.length ≤ sizeLine := by
  rcases h with h | ⟨o, its, n, hk, hc, hd, hs, hz, r⟩
  · obtain ⟨z, its, n, r, e⟩ := h.ok I.hok
    exact ⟨its, r, ⟨_, n, e, rfl, rfl, rfl⟩, z⟩
  · refine ⟨its.toList, r, ⟨o, n, I.kIn a o hk, hc, hd, by simpa using hs⟩, ?_⟩
    have e := r.length
    simp only [Array.length_toList] at e
    omega
theorem Inv.tuple (I : Inv X pins σ H s) (h : SqT X.K H a xs) : ∃ its : List Value, Vals xs its ∧ IsTup s.heap a its.toArray ∧ xs.length ≤ sizeLine := by
  rcases h with h | ⟨o, its, n, hk, hc, hs, hz, r⟩
  · obtain ⟨z, its, r, p⟩ := h.ok I.hok
    exact ⟨its, r, p, z⟩
  · refine ⟨its.toList, r, ⟨o, I.kIn a o hk, hc, n, by simpa using hs⟩, ?_⟩
    have e := r.length
    simp only [Array.length_toList] at e
    omega
theorem Inv.list_inj (I : Inv X pins σ H s) (h : SqL X.K H a xs) (h' : SqL X.K H a ys) : xs = ys := by
  obtain ⟨its, r, ⟨o, n, e, _, _, d⟩, _⟩ := I.list h
  obtain ⟨its', r', ⟨o', n', e', _, _, d'⟩, _⟩ := I.list h'
  rw [e] at e'; cases e'
  rw [d] at d'
  injection d' with d1 _
  have : its = its' := by simpa using congrArg Array.toList d1
  subst this
  exact r.inj r'
theorem Inv.tuple_inj (I : Inv X pins σ H s) (h : SqT X.K H a xs) (h' : SqT X.K H a ys) : xs = ys := by
  obtain ⟨its, r, ⟨o, e, _, n, d⟩, _⟩ := I.tuple h
  obtain ⟨its', r', ⟨o', e', _, n', d'⟩, _⟩ := I.tuple h'
  rw [e] at e'; cases e'
  rw [d] at d'
  injection d' with d1 _
  have : its = its' := by simpa using congrArg Array.toList d1
  subst this
  exact r.inj r'
end

/-! ### another wish about exceptions -/
section
variable {X : Cx} {pins : List (Addr × Obj)} {σ : St} {H : Hp} {s : Shared} {E : Value → Shared → Prop}
end

/-! ### blocks and small statements -/
section
variable {X : Cx} {st : Stmt} {rest : List Stmt} {t u : TS} {e : Expr} {te : TE} {pos : Pos}
noncomputable def tNext : TS := fun D σ H => D.nx σ H
noncomputable def tSeq (t u : TS) : TS := fun D σ H => t { D with nx := u D } σ H
theorem pss_nil : PSs X [] tNext := fun _ _ σ H _ I h => wpAny_execs_nil ⟨σ, H, I, h⟩
theorem pss_cons (h1 : PS X st t) (h2 : PSs X rest u) : PSs X (st :: rest) (tSeq t u) := by
  intro pins s σ H D I h
  refine wpAny_execs_cons (thn (h1 pins s σ H { D with nx := u D } I h) fun f s1 q => ?_)
  cases f with
  | next =>
    obtain ⟨σ', H', I', q⟩ := q
    exact h2 pins s1 σ' H' D I' q
  | ret v => exact q
  | brk => exact q
  | cont => exact q
theorem pss_one (h1 : PS X st t) : PSs X [st] t := by
  intro pins s σ H D I h
  refine wpAny_execs_cons (thn (h1 pins s σ H D I h) fun f s1 q => ?_)
  cases f with
  | next => exact wpAny_execs_nil q
  | ret v => exact q
  | brk => exact q
  | cont => exact q
/-- in a def's body nothing is shown -/
theorem Inv.quiet {pins : List (Addr × Obj)} {σ : St} {H : Hp} {s : Shared} (I : Inv X pins σ H s) : interactive X.env = false := by simp [interactive, I.ok.kind]
/-- an expression whose value is dropped -/
noncomputable def tDrop (te : TE) : TS := fun D σ H => te σ H fun _ H1 => D.nx σ H1
theorem ps_expr (he : PE X e te) (hs : swapsWith e none pos.line X.env = pure false := by rfl) : PS X (.Expr e pos) (tDrop te) := by
  intro pins s σ H D I h
  exact wpAny_Expr_any (thn (he pins s σ H _ I h) fun v s1 ⟨x, H1, I1, r1, q1⟩ => ⟨σ, H1, I1, q1⟩) I.quiet hs
noncomputable def tRet (te : TE) : TS := fun D σ H => te σ H D.rt
theorem ps_ret (he : PE X e te) : PS X (.Return (some e) pos) (tRet te) := by
  intro pins s σ H D I h
  exact wpAny_Return_some (thn (he pins s σ H _ I h) fun v s1 ⟨x, H1, I1, r1, q1⟩ => ⟨x, σ, H1, I1, r1, q1⟩)
noncomputable def tIfS (c : TT) (t u : TS) : TS := fun D σ H => c σ H fun b H1 => if b = true then t D σ H1 else u D σ H1
theorem ps_if {c : Expr} {a b : List Stmt} {tc : TT} (hc : PT X c tc) (ha : PSs X a t) (hb : PSs X b u) : PS X (.If c a b pos) (tIfS tc t u) := by
  intro pins s σ H D I h
  refine wpAny_If (thn (hc pins s σ H _ I h) fun d s1 ⟨H1, I1, q1⟩ => ?_)
  cases d with
  | true => exact ha pins s1 σ H1 D I1 q1
  | false => exact hb pins s1 σ H1 D I1 q1
end

/-! ### targets -/
noncomputable abbrev TG := V → St → Hp → (St → Hp → Prop) → Prop
noncomputable abbrev TGs := List V → St → Hp → (St → Hp → Prop) → Prop
noncomputable def PG (X : Cx) (target : Expr) (t : TG) : Prop :=
  ∀ (pins : List (Addr × Obj)) (s : Shared) (σ : St) (H : Hp) (v : V) (u : Value) (Q : St → Hp → Prop), Inv X pins σ H s → RelV v u → t v σ H Q →
    wpAny (model X.prog X.w) X.A (assign target X.env u) (fun _ s' => ∃ σ' H', Inv X pins σ' H' s' ∧ Q σ' H') X.xe s
/-- several targets, one after another -/
noncomputable def PGs (X : Cx) (ts : List Expr) (t : TGs) : Prop :=
  ∀ (pins : List (Addr × Obj)) (s : Shared) (σ : St) (H : Hp) (vs : List V) (us : List Value) (Q : St → Hp → Prop), Inv X pins σ H s → Vals vs us → t vs σ H Q →
    wpAny (model X.prog X.w) X.A (assignInOrder ((assignEach ts X.env).map (·.2)) us) (fun _ s' => ∃ σ' H', Inv X pins σ' H' s' ∧ Q σ' H') X.xe s
/-- o[i] = v, by values -/
noncomputable abbrev TSet := V → V → V → Hp → (Hp → Prop) → Prop
noncomputable def PSet (X : Cx) (t : TSet) : Prop :=
  ∀ (pins : List (Addr × Obj)) (s : Shared) (σ : St) (H : Hp) (o i v : V) (ov iv u : Value) (Q : Hp → Prop), Inv X pins σ H s → RelV o ov → RelV i iv → RelV v u → t o i v H Q →
    wpAny (model X.prog X.w) X.A (setItem ov iv u) (fun _ s' => ∃ H', Inv X pins σ H' s' ∧ Q H') X.xe s
section
variable {X : Cx} {pos : Pos}
noncomputable def gName (i : Nat) : TG := fun v σ H Q => Q (σ.set i (some v)) H
theorem pg_name {i : Nat} {x : Str} (hN : X.N.Nodup) (hi : X.N[i]? = some x) (hx : Loc X.env.scope x) (hf : X.fn x = true ∨ X.env.scope.names.lookup x = some .local := by first | exact .inl rfl | exact .inr rfl | assumption) : PG X (.Name x pos) (gName i) := by
  intro pins s σ H v u Q I r h
  exact wpAny_assign_Name (store_ok I hN hi hx r (fun s' I' => ⟨_, H, I', h⟩) hf)
noncomputable def gNil : TGs := fun vs σ H Q => vs = [] ∧ Q σ H
noncomputable def gCons (t : TG) (u : TGs) : TGs := fun vs σ H Q => ∃ v r, vs = v :: r ∧ t v σ H fun σ' H' => u r σ' H' Q
theorem pgs_nil : PGs X [] gNil := by
  intro pins s σ H vs us Q I r h
  obtain ⟨e, h⟩ := h
  subst e
  cases r
  exact assignInOrder_nil ⟨σ, H, I, h⟩
theorem pgs_cons {e : Expr} {es : List Expr} {t : TG} {u : TGs} (h1 : PG X e t) (h2 : PGs X es u)
    (hs : (assignEach (e :: es) X.env).map (·.2) = assign e X.env :: (assignEach es X.env).map (·.2) := by rfl) : PGs X (e :: es) (gCons t u) := by
  intro pins s σ H vs us Q I r h
  obtain ⟨v, vr, e1, h⟩ := h
  subst e1
  cases r with
  | cons r rr =>
    rw [hs]
    refine assignInOrder_cons (thn (h1 pins s σ H _ _ _ I r h) fun _ s1 ⟨σ1, H1, I1, q1⟩ => ?_)
    exact h2 pins s1 σ1 H1 _ _ Q I1 rr q1
/-- (a, b, ..) = a tuple of that length -/
noncomputable def gTup (K : PySem.W.Frag) (n : Nat) (t : TGs) : TG := fun v σ H Q => ∃ a xs, v = .ref a ∧ SqT K H a xs ∧ xs.length = n ∧ t xs σ H Q
theorem pg_tup {es : List Expr} {k : Nat} {t : TGs} {n : Nat} (hc : X.calm = true) (h : PGs X es t)
    (hn : (assignEach es X.env).length = n := by rfl) (hst : (assignEach es X.env).findIdx? (·.1) = none := by rfl) : PG X (.Tuple es k pos) (gTup X.K n t) := by
  intro pins s σ H v u Q I r hw
  obtain ⟨a, xs, e1, hq, hl, hw⟩ := hw
  subst e1
  cases r
  obtain ⟨its, rv, ht, hz⟩ := I.tuple hq
  refine assign_Tuple_tuple (I.ok.hd hc) ht (by simp [hn, ← hl, rv.length]) hst fun h' hx => ?_
  have I1 : Inv X pins σ H { s with heap := h' } := I.kept (t' := s.toks) fun b o e => hx b o (Nat.ne_of_lt (Heap.lt_size e)) e
  exact h pins _ σ H xs _ Q I1 (by simpa using rv) hw
/-- o[i] = .. -/
noncomputable def gSub (to ti : TE) (t : TSet) : TG := fun v σ H Q => to σ H fun o H1 => ti σ H1 fun i H2 => t o i v H2 fun H3 => Q σ H3
theorem pg_sub {o i : Expr} {to ti : TE} {t : TSet} (ho : PE X o to) (hi : PE X i ti) (hs : PSet X t)
    (ha : ∀ v, assign (.Subscript o i pos) X.env v = (do
      let ov ← holding [v] (eval o X.env)
      let iv ← holding [v, ov] (eval i X.env)
      standAt pos
      holding [v, ov, iv] (setItem ov iv v)
      release [v, ov, iv] []) := by intro _; rfl) : PG X (.Subscript o i pos) (gSub to ti t) := by
  intro pins s σ H v u Q I r h
  rw [ha]
  refine wpAny_bind (wpAny_holding (thn (ho pins s σ H _ I h) fun ov s1 ⟨x, H1, I1, r1, q1⟩ => ?_))
  refine wpAny_bind (wpAny_holding (thn (hi pins s1 σ H1 _ I1 q1) fun iv s2 ⟨y, H2, I2, r2, q2⟩ => ?_))
  refine wpAny_bind (wpAny_standAt (wpAny_bind (wpAny_holding (thn (hs pins s2 σ H2 x y v ov iv u _ I2 r1 r2 r q2) fun _ s3 ⟨H3, I3, q3⟩ => ?_))))
  exact wpAny_release ⟨σ, H3, I3, q3⟩
/-- target = value -/
noncomputable def tAsg (te : TE) (g : TG) : TS := fun D σ H => te σ H fun x H1 => g x σ H1 D.nx
theorem ps_asg {tg e : Expr} {te : TE} {g : TG} (he : PE X e te) (hg : PG X tg g) (hs : swapsWithSole [tg] e pos.line X.env = pure false := by rfl) (hw : swappedStores [tg] e X.env = pure none := by rfl)
    (h1 : (assignEach [tg] X.env).map (·.2) = [assign tg X.env] := by rfl) : PS X (.Assign [tg] e pos) (tAsg te g) := by
  intro pins s σ H D I h
  refine wpAny_Assign_stores (thn (he pins s σ H _ I h) fun v s1 ⟨x, H1, I1, r1, q1⟩ => ?_) hs hw
  rw [h1]
  exact thn (hg pins s1 σ H1 x v _ I1 r1 q1) fun _ s2 q => q
/-- name = value -/
theorem ps_set {i : Nat} {x : Str} {e : Expr} {te : TE} {pos' : Pos} (hN : X.N.Nodup) (hi : X.N[i]? = some x) (hx : Loc X.env.scope x) (he : PE X e te) (hs : swapsWith e (some (.Name x pos')) pos.line X.env = pure false := by rfl) (hf : X.fn x = true ∨ X.env.scope.names.lookup x = some .local := by first | exact .inl rfl | exact .inr rfl | assumption) :
    PS X (.Assign [.Name x pos'] e pos) (tAsg te (gName i)) := by
  intro pins s σ H D I h
  refine wpAny_Assign_Name (thn (he pins s σ H _ I h) fun v s1 ⟨y, H1, I1, r1, q1⟩ => ?_) hs
  exact store_ok I1 hN hi hx r1 (fun s2 I2 => ⟨_, H1, I2, q1⟩) hf
end

/-! ### while -/
section
variable {X : Cx} {pos : Pos}
end

/-! ### what a loop or a comprehension walks -/
/-- at turn i: it yields x (the heap may grow), or it stops -/
structure It where
  go : Nat → Hp → Prop
  yld : Nat → Hp → V → Hp → Prop
  stop : Nat → Hp → Prop
/-- the iterator's own objects may turn: they are not the frame's, not pinned, younger than the entry (or a comprehension's own) -/
noncomputable def FpOk (X : Cx) (pins : List (Addr × Obj)) (H : Hp) (b : Addr) : Prop :=
  H b = none ∧ b ≠ X.env.locals ∧ b ∉ X.fs ∧ (b ∈ X.ex ∨ X.s₀.heap.objs.size ≤ b) ∧ (∀ x c, X.env.cells.lookup x = some c → c ≠ b) ∧ ∀ p ∈ X.pn ++ pins, p.1 ≠ b
theorem Inv.fpOk {X : Cx} {pins : List (Addr × Obj)} {σ : St} {H H' : Hp} {s : Shared} {b : Addr} (I : Inv X pins σ H s) (hb : s.heap.objs.size ≤ b) (hn : H' b = none) : FpOk X pins H' b := by
  refine ⟨hn, Nat.ne_of_gt (Nat.lt_of_lt_of_le I.lt hb), I.nofs hb, .inr (Nat.le_trans I.sz hb), fun x c e z => ?_, fun p hp z => ?_⟩
  · obtain ⟨v, q⟩ := I.cell x c e
    exact absurd (Nat.lt_of_lt_of_le q.lt (by rw [z]; exact hb)) (Nat.lt_irrefl _)
  · exact absurd (Nat.lt_of_lt_of_le (Heap.lt_size (I.pin p hp).1) (by rw [z]; exact hb)) (Nat.lt_irrefl _)
structure Turn (P : Program) (w : World) (K : PySem.W.Frag) (tg : Expr) (J : It) (fp : List Addr) (it : Addr) (tn : Nat → Heap → Prop) : Prop where
  mem : it ∈ fp
  obj : ∀ i h, tn i h → ∀ b ∈ fp, ∃ o, h.get? b = some o ∧ ∀ v, o.data ≠ .cell v
  keep : ∀ i h h', tn i h → (∀ b ∈ fp, ∀ o, h.get? b = some o → h'.get? b = some o) → tn i h'
  item : ∀ (X : Cx), X.prog = P → X.w = w → X.K = K → X.calm = true → ∀ (i : Nat) (pins : List (Addr × Obj)) (s : Shared) (σ : St) (H : Hp) (E : Value → Shared → Prop), Inv X pins σ H s → (∀ b ∈ fp, FpOk X pins H b) → tn i s.heap → J.go i H →
    wpAny (model P w) X.A (pyNext (.ref it)) (fun r s1 => ∃ u, r = some u ∧
      wpAny (model P w) X.A (letOwnedTupleGo tg (.ref it) u) (fun _ s2 => ∃ x H', Inv X pins σ H' s2 ∧ RelV x u ∧ J.yld i H x H' ∧ tn (i + 1) s2.heap ∧ ∀ b ∈ fp, H' b = none) E s1) E s
  done : ∀ (X : Cx), X.prog = P → X.w = w → X.K = K → X.calm = true → ∀ (i : Nat) (pins : List (Addr × Obj)) (s : Shared) (σ : St) (H : Hp) (E : Value → Shared → Prop), Inv X pins σ H s → (∀ b ∈ fp, FpOk X pins H b) → tn i s.heap → J.stop i H →
    wpAny (model P w) X.A (pyNext (.ref it)) (fun r s1 => r = none ∧ Inv X pins σ H s1) E s
  self : ∀ (A : Around) (i : Nat) (s : Shared) (Q : Value → Shared → Prop) (E : Value → Shared → Prop), tn i s.heap → Q (.ref it) s → wpAny (model P w) A (pyIter (.ref it)) Q E s
noncomputable abbrev TI := St → Hp → (It → Hp → Prop) → Prop
/-- an iterator has come -/
noncomputable def PIE (X : Cx) (pins : List (Addr × Obj)) (σ : St) (tg : Expr) (R : It → Hp → Prop) (itv : Value) (s2 : Shared) : Prop :=
  ∃ (it : Addr) (fp : List Addr) (tn : Nat → Heap → Prop) (J : It) (H' : Hp), itv = .ref it ∧ Inv X pins σ H' s2 ∧ Turn X.prog X.w X.K tg J fp it tn ∧ tn 0 s2.heap ∧ (∀ b ∈ fp, FpOk X pins H' b) ∧ R J H'
noncomputable def PI (X : Cx) (tg iter : Expr) (wi : TI) : Prop :=
  ∀ (pins : List (Addr × Obj)) (s : Shared) (σ : St) (H : Hp) (R : It → Hp → Prop), Inv X pins σ H s → wi σ H R →
    wpAny (model X.prog X.w) X.A (eval iter X.env) (fun v s1 => wpAny (model X.prog X.w) X.A (pyIter v) (PIE X pins σ tg R) X.xe s1) X.xe s

/-- the step ahead of the store is nothing for an iterator that keeps no tuple -/
theorem go_of {M : Model} {A : Around} {E : Value → Shared → Prop} {s : Shared} {tg : Expr} {it : Addr} {u : Value} {o : Obj} {n : String} {vs : Array Value} {Q : Unit → Shared → Prop} (ho : s.heap.get? it = some o) (hc : o.cls = .type n) (hd : o.data = .fields vs)
    (hn : ["enumerate", "zip", "dict_itemiterator", "dict_reverseitemiterator", "odict_iterator", "itertools.zip_longest", "itertools.pairwise"].contains n = false) (hQ : Q () s) : wpAny M A (letOwnedTupleGo tg (.ref it) u) Q E s := by
  unfold letOwnedTupleGo
  cases tg <;> first
    | exact wpAny_pure hQ
    | (cases u <;> first
        | exact wpAny_pure hQ
        | (refine wpAny_bind (wpAny_load ho ?_)
           rw [hc, hd]
           show wpAny M A (if (["enumerate", "zip", "dict_itemiterator", "dict_reverseitemiterator", "odict_iterator", "itertools.zip_longest", "itertools.pairwise"].contains n && vs[0]? == some (rawInt _)) = true then _ else _) Q E s
           rw [if_neg (by intro h; rw [hn, Bool.false_and] at h; cases h)]
           exact wpAny_pure hQ))

/-- the list at a, as it stands at each turn (a loop may append to it) -/
noncomputable def Itl (K : PySem.W.Frag) (a : Addr) : It :=
  ⟨fun i H => ∃ xs x, SqL K H a xs ∧ xs[i]? = some x, fun i H x H' => H' = H ∧ ∀ xs, SqL K H a xs → xs[i]? = some x, fun i H => ∃ xs, SqL K H a xs ∧ xs.length ≤ i⟩
noncomputable def Itt (K : PySem.W.Frag) (a : Addr) : It :=
  ⟨fun i H => ∃ xs x, SqT K H a xs ∧ xs[i]? = some x, fun i H x H' => H' = H ∧ ∀ xs, SqT K H a xs → xs[i]? = some x, fun i H => ∃ xs, SqT K H a xs ∧ xs.length ≤ i⟩
/-- lo, lo + 1, .. (n of them) -/
noncomputable def Itr (lo : Int) (n : Nat) : It := ⟨fun i _ => i < n, fun i H x H' => H' = H ∧ x = .int (lo + i), fun i _ => n ≤ i⟩
theorem turn_list {P : Program} {w : World} {K : PySem.W.Frag} {tg : Expr} (a it : Addr) : Turn P w K tg (Itl K a) [it] it (fun i h => h.IsListIter it a i) where
  mem := by simp
  obj := fun i h st b hb => by
    have e : b = it := by simpa using hb
    subst e
    obtain ⟨o, e, c, d⟩ := st
    exact ⟨o, e, fun v z => by rw [d] at z; cases z⟩
  keep := fun i h h' st k => st.at fun o e => k it (by simp) o e
  item := by
    intro X hP hw hK hc i pins s σ H E I hf st hg
    subst hP hw hK
    obtain ⟨xs, x, hq, hx⟩ := hg
    obtain ⟨its, rv, p, hz⟩ := I.list hq
    obtain ⟨u, hu, ru⟩ := rv.get hx
    obtain ⟨f0, f1, f2, f3, f4, f5⟩ := hf it (by simp)
    refine wpAny_pyNext_list_item st p.isList (x := u) (by simpa using hu) fun h' st' sb => ?_
    have I1 : Inv X pins σ H { s with heap := h' } := I.turned (t' := s.toks) (fun b o hb e => (sb.2 b hb).trans e) f0 f1 f3 f4 f5
    obtain ⟨o, e, c, d⟩ := id st'
    exact ⟨u, rfl, go_of (s := { s with heap := h' }) e c d (by decide) ⟨x, H, I1, ru, ⟨rfl, fun ys hy => by rw [I.list_inj hy hq]; exact hx⟩, st', fun b hb => (hf b hb).1⟩⟩
  done := by
    intro X hP hw hK hc i pins s σ H E I hf st hg
    subst hP hw hK
    obtain ⟨xs, hq, hx⟩ := hg
    obtain ⟨its, rv, p, hz⟩ := I.list hq
    obtain ⟨f0, f1, f2, f3, f4, f5⟩ := hf it (by simp)
    have hl := rv.length
    exact wpAny_pyNext_list_end (I.ok.hd hc) st p.isList (by simp; omega) fun h' eb => ⟨rfl, I.turned (t' := s.toks) (fun b o hb e => eb b o hb e) f0 f1 f3 f4 f5⟩
  self := fun _ _ _ _ _ st h => wpAny_pyIter_listiter st h
theorem turn_tuple {P : Program} {w : World} {K : PySem.W.Frag} {tg : Expr} (a it : Addr) : Turn P w K tg (Itt K a) [it] it (fun i h => h.IsTupleIter it a i) where
  mem := by simp
  obj := fun i h st b hb => by
    have e : b = it := by simpa using hb
    subst e
    obtain ⟨o, e, c, d⟩ := st
    exact ⟨o, e, fun v z => by rw [d] at z; cases z⟩
  keep := fun i h h' st k => st.at fun o e => k it (by simp) o e
  item := by
    intro X hP hw hK hc i pins s σ H E I hf st hg
    subst hP hw hK
    obtain ⟨xs, x, hq, hx⟩ := hg
    obtain ⟨its, rv, p, hz⟩ := I.tuple hq
    obtain ⟨u, hu, ru⟩ := rv.get hx
    obtain ⟨f0, f1, f2, f3, f4, f5⟩ := hf it (by simp)
    refine wpAny_pyNext_tuple_item st (show s.heap.IsTuple a its.toArray from p) (x := u) (by simpa using hu) fun h' st' sb => ?_
    have I1 : Inv X pins σ H { s with heap := h' } := I.turned (t' := s.toks) (fun b o hb e => (sb.2 b hb).trans e) f0 f1 f3 f4 f5
    obtain ⟨o, e, c, d⟩ := id st'
    exact ⟨u, rfl, go_of (s := { s with heap := h' }) e c d (by decide) ⟨x, H, I1, ru, ⟨rfl, fun ys hy => by rw [I.tuple_inj hy hq]; exact hx⟩, st', fun b hb => (hf b hb).1⟩⟩
  done := by
    intro X hP hw hK hc i pins s σ H E I hf st hg
    subst hP hw hK
    obtain ⟨xs, hq, hx⟩ := hg
    obtain ⟨its, rv, p, hz⟩ := I.tuple hq
    obtain ⟨f0, f1, f2, f3, f4, f5⟩ := hf it (by simp)
    have hl := rv.length
    exact wpAny_pyNext_tuple_end (I.ok.hd hc) st (show s.heap.IsTuple a its.toArray from p) (by simp; omega) fun h' eb => ⟨rfl, I.turned (t' := s.toks) (fun b o hb e => eb b o hb e) f0 f1 f3 f4 f5⟩
  self := fun _ _ _ _ _ st h => wpAny_pyIter_tupleiter st h
theorem turn_range {P : Program} {w : World} {K : PySem.W.Frag} {tg : Expr} (it : Addr) (lo : Int) (n : Nat) : Turn P w K tg (Itr lo n) [it] it (fun i h => IsRangeIter h it (lo + (i : Nat) * 1) ((n : Int) - (i : Nat)) 1) where
  mem := by simp
  obj := fun i h st b hb => by
    have e : b = it := by simpa using hb
    subst e
    exact ⟨_, st, fun v z => by
      have z' : Data.fields _ = Data.cell v := z
      cases z'⟩
  keep := fun i h h' st k => k it (by simp) _ st
  item := by
    intro X hP hw hK hc i pins s σ H E I hf st hg
    subst hP hw hK
    obtain ⟨f0, f1, f2, f3, f4, f5⟩ := hf it (by simp)
    have W := Walks.range (prog := X.prog) (w := X.w) (I.ok.hd hc) it lo 1 n
    refine W.item i s _ _ hg st fun v h' tk hv st' kk => ?_
    obtain ⟨t, rfl⟩ := hv
    have I1 : Inv X pins σ H { s with heap := h', toks := tk } := I.turned (fun b o hb e => kk b o (by simpa using hb) e) f0 f1 f3 f4 f5
    refine ⟨_, rfl, go_of (s := { s with heap := h', toks := tk }) (n := "range_iterator") st' rfl rfl (by decide) ⟨.int (lo + i), H, I1, ⟨t, ?_⟩, ⟨rfl, rfl⟩, st', fun b hb => (hf b hb).1⟩⟩
    rw [Int.mul_one]
  done := by
    intro X hP hw hK hc i pins s σ H E I hf st hg
    subst hP hw hK
    obtain ⟨f0, f1, f2, f3, f4, f5⟩ := hf it (by simp)
    exact wpAny_pyNext_range_end (I.ok.hd hc) st (by have : n ≤ i := hg; omega) fun h' eb => ⟨rfl, I.turned (t' := s.toks) (fun b o hb e => eb b o hb e) f0 f1 f3 f4 f5⟩
  self := fun _ _ _ _ _ st h => wpAny_pyIter_rangeiter st h
end L2

namespace L2
open PySem PySem.Spec PyProof.Rows
section
variable {X : Cx} {tg : Expr}
noncomputable def iList (K : PySem.W.Frag) (tl : TE) : TI := fun σ H R => tl σ H fun x H1 => ∃ a, x = .ref a ∧ (∃ xs, SqL K H1 a xs) ∧ R (Itl K a) H1
noncomputable def iTup (K : PySem.W.Frag) (tl : TE) : TI := fun σ H R => tl σ H fun x H1 => ∃ a, x = .ref a ∧ (∃ xs, SqT K H1 a xs) ∧ R (Itt K a) H1
theorem pi_list {l : Expr} {tl : TE} (hl : PE X l tl) : PI X tg l (iList X.K tl) := by
  intro pins s σ H R I h
  refine thn (hl pins s σ H _ I h) fun v s1 ⟨x, H1, I1, r1, q1⟩ => ?_
  obtain ⟨a, e, ⟨xs, hq⟩, q⟩ := q1
  subst e
  cases r1
  obtain ⟨its, rv, p, hz⟩ := I1.list hq
  refine wpAny_pyIter_list p.isList ?_
  refine ⟨s1.heap.objs.size, [s1.heap.objs.size], _, _, H1, rfl, I1.kept (t' := s1.toks) fun b o e => Heap.get?_push_of_some _ e, turn_list a _, ⟨_, Heap.get?_push_size _ rfl, rfl, rfl⟩, fun b hb => ?_, q⟩
  have e : b = s1.heap.objs.size := by simpa using hb
  subst e
  exact I1.fpOk (Nat.le_refl _) (I1.hok.fresh (Nat.le_refl _))
theorem pi_tup {l : Expr} {tl : TE} (hl : PE X l tl) : PI X tg l (iTup X.K tl) := by
  intro pins s σ H R I h
  refine thn (hl pins s σ H _ I h) fun v s1 ⟨x, H1, I1, r1, q1⟩ => ?_
  obtain ⟨a, e, ⟨xs, hq⟩, q⟩ := q1
  subst e
  cases r1
  obtain ⟨its, rv, p, hz⟩ := I1.tuple hq
  refine wpAny_pyIter_tuple (show s1.heap.IsTuple a its.toArray from p) ?_
  refine ⟨s1.heap.objs.size, [s1.heap.objs.size], _, _, H1, rfl, I1.kept (t' := s1.toks) fun b o e => Heap.get?_push_of_some _ e, turn_tuple a _, ⟨_, Heap.get?_push_size _ rfl, rfl, rfl⟩, fun b hb => ?_, q⟩
  have e : b = s1.heap.objs.size := by simpa using hb
  subst e
  exact I1.fpOk (Nat.le_refl _) (I1.hok.fresh (Nat.le_refl _))
/-- a range object just made, walked -/
theorem range_it {pins : List (Addr × Obj)} {σ : St} {H : Hp} {s : Shared} {R : It → Hp → Prop} {E : Value → Shared → Prop} {lo hi : Int} {t u v : Tok} {tk : Nat} (I : Inv X pins σ H s) (h1 : -(2 ^ 62) ≤ lo) (h2 : lo < 2 ^ 62) (h3 : -(2 ^ 62) ≤ hi) (h4 : hi < 2 ^ 62)
    (q : R (Itr lo (hi - lo).toNat) H) : wpAny (model X.prog X.w) X.A (pyIter (.ref s.heap.objs.size)) (PIE X pins σ tg R) E { s with heap := s.heap.push { cls := .type "range", data := .fields #[.int lo t, .int hi u, .int 1 v] }, toks := tk } := by
  refine wpAny_pyIter_range (IsRange.new ..) (small_one h1 h2 h3 h4) ?_
  have I1 : Inv X pins σ H { s with heap := s.heap.push { cls := .type "range", data := .fields #[.int lo t, .int hi u, .int 1 v] }, toks := tk } := I.kept fun b o e => Heap.get?_push_of_some _ e
  refine ⟨(s.heap.push { cls := .type "range", data := .fields #[.int lo t, .int hi u, .int 1 v] }).objs.size, [(s.heap.push { cls := .type "range", data := .fields #[.int lo t, .int hi u, .int 1 v] }).objs.size], _, _, H, rfl,
    I1.kept (t' := tk) fun b o e => Heap.get?_push_of_some _ e, turn_range _ lo (hi - lo).toNat, ?_, fun b hb => ?_, q⟩
  · have e1 : lo + ((0 : Nat) : Int) * 1 = lo := by simp
    have e2 : (((hi - lo).toNat : Nat) : Int) - ((0 : Nat) : Int) = Builtin.Range.rangeSize lo hi 1 := by rw [rangeSize_one]; split <;> omega
    show IsRangeIter _ _ (lo + ((0 : Nat) : Int) * 1) ((((hi - lo).toNat : Nat) : Int) - ((0 : Nat) : Int)) 1
    rw [e1, e2]
    exact Heap.get?_push_size _ rfl
  · have e : b = (s.heap.push { cls := .type "range", data := .fields #[.int lo t, .int hi u, .int 1 v] }).objs.size := by simpa using hb
    subst e
    exact I1.fpOk (Nat.le_refl _) (I1.hok.fresh (Nat.le_refl _))
noncomputable def iRng1 (ta : TA) : TI := fun σ H R => ta σ H fun vs H1 => ∃ j : Int, vs = [.int j] ∧ -(2 ^ 62) ≤ j ∧ j < 2 ^ 62 ∧ R (Itr 0 j.toNat) H1
theorem pi_range1 {a : Expr} {ta : TA} {p pos : Pos} (hg : Gl X "range") (hm : X.mg "range" = none) (ha : PA X [a] ta) (hs : starEach [a] X.env = [(false, eval a X.env)] := by rfl) : PI X tg (.Call (.Name "range" p) [a] [] pos) (iRng1 ta) := by
  intro pins s σ H R I h
  refine Call_ (ld_blt I hg hm boot_range (PyProof.Rows.callWith_type1 (thn (ha pos pins s σ H _ I h) fun us s1 ⟨vs, H1, I1, r1, q1⟩ => ?_) hs rfl))
  obtain ⟨j, e, q1, q2, q⟩ := q1
  subst e
  cases r1 with
  | cons r rr =>
    cases rr
    obtain ⟨t, rfl⟩ := r
    exact call_range_1 (range_it I1 (by omega) (by omega) q1 q2 (by simpa using q))

/-! ### for -/
/-- W: the invariant by the turn and a measure; N: what the body is to reach -/
noncomputable def tFor (wi : TI) (g : TG) (tb : TS) : TS := fun D σ H => wi σ H fun J H1 => ∃ W : Nat → Nat → St → Hp → Prop, (∃ m, W 0 m σ H1) ∧ ∀ i m σ H, W i m σ H →
  (J.stop i H ∧ D.nx σ H) ∨ (J.go i H ∧ ∃ N : St → Hp → Prop, (∀ σ' H', N σ' H' → ∃ m', m' < m ∧ W (i + 1) m' σ' H') ∧ ∀ x H', J.yld i H x H' → g x σ H' fun σ2 H2 => tb { D with nx := N, ct := N, bk := D.nx } σ2 H2)
/-- the records at fp as they stand -/
noncomputable def pinsAt (fp : List Addr) (h : Heap) : List (Addr × Obj) := fp.filterMap fun b => (h.get? b).map fun o => (b, o)
theorem mem_pinsAt {fp : List Addr} {h : Heap} {b : Addr} {o : Obj} (hb : b ∈ fp) (e : h.get? b = some o) : (b, o) ∈ pinsAt fp h := List.mem_filterMap.mpr ⟨b, hb, by rw [e]; rfl⟩
theorem of_pinsAt {fp : List Addr} {h : Heap} {p : Addr × Obj} (hp : p ∈ pinsAt fp h) : p.1 ∈ fp ∧ h.get? p.1 = some p.2 := by
  obtain ⟨b, hb, e⟩ := List.mem_filterMap.mp hp
  cases q : h.get? b with
  | none => rw [q] at e; cases e
  | some o =>
    rw [q] at e
    have e' : (b, o) = p := Option.some.inj e
    subst e'
    exact ⟨hb, q⟩
theorem Inv.pinned {pins : List (Addr × Obj)} {σ : St} {H : Hp} {s : Shared} {fp : List Addr} (I : Inv X pins σ H s) (hf : ∀ b ∈ fp, FpOk X pins H b) (ho : ∀ b ∈ fp, ∃ o, s.heap.get? b = some o ∧ ∀ v, o.data ≠ .cell v) : Inv X (pins ++ pinsAt fp s.heap) σ H s :=
  I.pins_of fun p hp => (List.mem_append.mp hp).elim (fun z => I.pin p (List.mem_append_right _ z)) fun z => by
    obtain ⟨hb, e⟩ := of_pinsAt z
    obtain ⟨f0, f1, f2, _⟩ := hf p.1 hb
    obtain ⟨o, e', d⟩ := ho p.1 hb
    rw [e] at e'; cases e'
    exact ⟨e, f0, f1, f2, d⟩
theorem Inv.unpinned {pins pl : List (Addr × Obj)} {σ : St} {H : Hp} {s : Shared} (I : Inv X (pins ++ pl) σ H s) : Inv X pins σ H s := I.pins_of fun p hp => I.pin p (List.mem_append_right _ (List.mem_append_left _ hp))
theorem ps_for {iter : Expr} {body : List Stmt} {wi : TI} {g : TG} {tb : TS} {pos : Pos} (hp : PassesOwn (model X.prog X.w) X.A X.env X.xe) (hc : X.calm = true) (hi : PI X tg iter wi) (hg : PG X tg g) (hb : PSs X body tb)
    (hs : ∀ x, foldedSetIterable iter X.env x = pure x := by intro _; rfl) : PS X (.For tg iter body [] pos) (tFor wi g tb) := by
  intro pins s σ H D I h
  refine wpAny_For (thn (hi pins s σ H _ I h) fun v s1 h1 => thn h1 fun itv s2 h2 => ?_) hs
  obtain ⟨it, fp, tn, J, H2, e, I2, T, st2, f2, W, ⟨m0, w0⟩, turn⟩ := h2
  subst e
  -- what stays true of the iterator's objects through the loop
  have stat : ∀ {H' : Hp}, (∀ b ∈ fp, H' b = none) → ∀ b ∈ fp, FpOk X pins H' b := fun hn b hb => ⟨hn b hb, (f2 b hb).2⟩
  refine codeAny_forLoop_any (fun n s' => ∃ i σ' H', Inv X pins σ' H' s' ∧ tn i s'.heap ∧ (∀ b ∈ fp, H' b = none) ∧ W i n σ' H') ?_ m0 ⟨0, σ, H2, I2, st2, fun b hb => (f2 b hb).1, w0⟩
  rintro n s3 ⟨i, σ3, H3, I3, st3, fr3, w3⟩
  rcases turn i n σ3 H3 w3 with ⟨stop, qn⟩ | ⟨go, N, hN, step⟩
  · refine wpAny_passesOwn hp (thn (T.done X rfl rfl rfl hc i pins s3 σ3 H3 X.xe I3 (stat fr3) st3 stop) fun r s4 ⟨hr, I4⟩ => ?_)
    subst hr
    exact wpAny_execs_nil ⟨σ3, H3, I4, qn⟩
  · refine wpAny_passesOwn hp (thn (T.item X rfl rfl rfl hc i pins s3 σ3 H3 X.xe I3 (stat fr3) st3 go) fun r s4 ⟨u, hr, h4⟩ => ?_)
    subst hr
    refine wpAny_passesOwn hp (thn h4 fun _ s5 ⟨x, H5, I5, r5, y5, st5, fr5⟩ => ?_)
    have I5' := I5.pinned (stat fr5) (T.obj _ _ st5)
    refine wpAny_passesOwn hp (thn (hg _ s5 σ3 H5 x u _ I5' r5 (step x H5 y5)) fun _ s6 ⟨σ6, H6, I6, q6⟩ => ?_)
    refine wpAny_passesOwn hp (thn (hb _ s6 σ6 H6 _ I6 q6) fun f s7 q7 => ?_)
    have again : ∀ {σ7 : St} {H7 : Hp}, Inv X (pins ++ pinsAt fp s5.heap) σ7 H7 s7 → N σ7 H7 → ∃ m, m < n ∧ ∃ i σ' H', Inv X pins σ' H' s7 ∧ tn i s7.heap ∧ (∀ b ∈ fp, H' b = none) ∧ W i m σ' H' := fun {σ7 H7} I7 n7 => by
      obtain ⟨m', hm, w7⟩ := hN σ7 H7 n7
      refine ⟨m', hm, i + 1, σ7, H7, I7.unpinned, T.keep _ _ _ st5 fun b hb o e => (I7.pin (b, o) (List.mem_append_right _ (List.mem_append_right _ (mem_pinsAt hb e)))).1, fun b hb => ?_, w7⟩
      obtain ⟨o, e, d⟩ := T.obj _ _ st5 b hb
      exact (I7.pin (b, o) (List.mem_append_right _ (List.mem_append_right _ (mem_pinsAt hb e)))).2.1
    cases f with
    | next => obtain ⟨σ7, H7, I7, n7⟩ := q7; exact again I7 n7
    | cont => obtain ⟨σ7, H7, I7, n7⟩ := q7; exact again I7 n7
    | brk => obtain ⟨σ7, H7, I7, q7⟩ := q7; exact ⟨σ7, H7, I7.unpinned, q7⟩
    | ret v => obtain ⟨x7, σ7, H7, I7, r7, q7⟩ := q7; exact ⟨x7, σ7, H7, I7.unpinned, r7, q7⟩
end

/-! ### the forms one uses -/
/-- over a list that the body leaves as it is -/
theorem for_list {K : PySem.W.Frag} {a : Addr} {xs : List V} {g : TG} {tb : TS} {D : Ends} {σ : St} {H : Hp} (Pv : Nat → St → Hp → Prop) (h0 : Pv 0 σ H) (hl : ∀ i σ H, i ≤ xs.length → Pv i σ H → SqL K H a xs)
    (hs : ∀ i x σ H, xs[i]? = some x → Pv i σ H → g x σ H fun σ2 H2 => tb { D with nx := Pv (i + 1), ct := Pv (i + 1), bk := D.nx } σ2 H2) (hd : ∀ σ H, Pv xs.length σ H → D.nx σ H) :
    ∃ W : Nat → Nat → St → Hp → Prop, (∃ m, W 0 m σ H) ∧ ∀ i m σ H, W i m σ H →
      ((Itl K a).stop i H ∧ D.nx σ H) ∨ ((Itl K a).go i H ∧ ∃ N : St → Hp → Prop, (∀ σ' H', N σ' H' → ∃ m', m' < m ∧ W (i + 1) m' σ' H') ∧ ∀ x H', (Itl K a).yld i H x H' → g x σ H' fun σ2 H2 => tb { D with nx := N, ct := N, bk := D.nx } σ2 H2) := by
  refine ⟨fun i m σ H => m = xs.length - i ∧ i ≤ xs.length ∧ Pv i σ H, ⟨xs.length, by simp, Nat.zero_le _, h0⟩, ?_⟩
  rintro i m σ H ⟨rfl, hi, p⟩
  have q := hl i σ H hi p
  by_cases hlt : i < xs.length
  · refine .inr ⟨⟨xs, xs[i], q, by simp [hlt]⟩, Pv (i + 1), fun σ' H' p' => ⟨xs.length - (i + 1), by omega, rfl, hlt, p'⟩, fun x H' y => ?_⟩
    obtain ⟨e, y⟩ := y
    subst e
    exact hs i x σ _ (y xs q) p
  · have e : i = xs.length := by omega
    subst e
    exact .inl ⟨⟨xs, q, Nat.le_refl _⟩, hd σ H p⟩
theorem for_range {lo : Int} {n : Nat} {g : TG} {tb : TS} {D : Ends} {σ : St} {H : Hp} (Pv : Nat → St → Hp → Prop) (h0 : Pv 0 σ H)
    (hs : ∀ i σ H, i < n → Pv i σ H → g (.int (lo + i)) σ H fun σ2 H2 => tb { D with nx := Pv (i + 1), ct := Pv (i + 1), bk := D.nx } σ2 H2) (hd : ∀ σ H, Pv n σ H → D.nx σ H) :
    ∃ W : Nat → Nat → St → Hp → Prop, (∃ m, W 0 m σ H) ∧ ∀ i m σ H, W i m σ H →
      ((Itr lo n).stop i H ∧ D.nx σ H) ∨ ((Itr lo n).go i H ∧ ∃ N : St → Hp → Prop, (∀ σ' H', N σ' H' → ∃ m', m' < m ∧ W (i + 1) m' σ' H') ∧ ∀ x H', (Itr lo n).yld i H x H' → g x σ H' fun σ2 H2 => tb { D with nx := N, ct := N, bk := D.nx } σ2 H2) := by
  refine ⟨fun i m σ H => m = n - i ∧ i ≤ n ∧ Pv i σ H, ⟨n, by simp, Nat.zero_le _, h0⟩, ?_⟩
  rintro i m σ H ⟨rfl, hi, p⟩
  by_cases hlt : i < n
  · refine .inr ⟨hlt, Pv (i + 1), fun σ' H' p' => ⟨n - (i + 1), by omega, rfl, hlt, p'⟩, fun x H' y => ?_⟩
    obtain ⟨e, y⟩ := y
    subst e y
    exact hs i σ _ hlt p
  · have e : i = n := by omega
    subst e
    exact .inl ⟨Nat.le_refl _, hd σ H p⟩
end L2

namespace L2
open PySem PySem.Spec PyProof.Rows

noncomputable abbrev R2 := V → V → Hp → VK → Prop
/-- a two-place operation on values: f is binaryOp op, inplaceOp op or compareOp op -/
noncomputable def OpR (X : Cx) (f : Value → Value → Sem Value) (r : R2) : Prop :=
  ∀ (pins : List (Addr × Obj)) (s : Shared) (σ : St) (H : Hp) (x y : V) (v u : Value) (Q : VK), Inv X pins σ H s → RelV x v → RelV y u → r x y H Q →
    wpAny (model X.prog X.w) X.A (f v u) (EP X pins σ Q) X.xe s
/-- a one-place operation -/
noncomputable def UnR (X : Cx) (f : Value → Sem Value) (r : V → Hp → VK → Prop) : Prop :=
  ∀ (pins : List (Addr × Obj)) (s : Shared) (σ : St) (H : Hp) (x : V) (v : Value) (Q : VK), Inv X pins σ H s → RelV x v → r x H Q →
    wpAny (model X.prog X.w) X.A (f v) (EP X pins σ Q) X.xe s
/-- a call of a value that is known (a builtin, a type) with values -/
noncomputable def CallR (X : Cx) (f : Value) (r : List V → Hp → VK → Prop) : Prop :=
  ∀ (pins : List (Addr × Obj)) (s : Shared) (σ : St) (H : Hp) (xs : List V) (us : List Value) (Q : VK), Inv X pins σ H s → Vals xs us → r xs H Q →
    wpAny (model X.prog X.w) X.A (call f us) (EP X pins σ Q) X.xe s
/-- a value's truth -/
noncomputable def TruR (X : Cx) (r : V → Hp → (Bool → Hp → Prop) → Prop) : Prop :=
  ∀ (pins : List (Addr × Obj)) (s : Shared) (σ : St) (H : Hp) (x : V) (v : Value) (Q : Bool → Hp → Prop), Inv X pins σ H s → RelV x v → r x H Q →
    wpAny (model X.prog X.w) X.A (truthy v) (TP X pins σ Q) X.xe s

noncomputable def tOp (r : R2) (ta tb : TE) : TE := fun σ H Q => ta σ H fun x H1 => tb σ H1 fun y H2 => r x y H2 Q
noncomputable def tUn (r : V → Hp → VK → Prop) (ta : TE) : TE := fun σ H Q => ta σ H fun x H1 => r x H1 Q
/-- ints in, under C, and a value out -/
noncomputable def rI (C : Int → Int → Prop) (g : Int → Int → V) : R2 := fun x y H Q => ∃ i j, x = .int i ∧ y = .int j ∧ C i j ∧ Q (g i j) H
noncomputable def rI0 (g : Int → Int → V) : R2 := fun x y H Q => ∃ i j, x = .int i ∧ y = .int j ∧ Q (g i j) H
noncomputable def rU (g : Int → V) : V → Hp → VK → Prop := fun x H Q => ∃ i, x = .int i ∧ Q (g i) H

section
variable {X : Cx} {a b c : Expr} {ta tb tc : TE} {pos : Pos}

theorem binT (ha : PE X a ta) (hb : PE X b tb) {pins : List (Addr × Obj)} {s : Shared} {σ : St} {H : Hp} {R : V → V → Hp → Prop} (I : Inv X pins σ H s)
    (h : ta σ H fun x H1 => tb σ H1 fun y H2 => R x y H2) {Q : Value → Shared → Prop} {f : Value → Value → Sem Value}
    (hf : ∀ v u s2 x y H2, Inv X pins σ H2 s2 → RelV x v → RelV y u → R x y H2 → wpAny (model X.prog X.w) X.A (f v u) Q X.xe s2) :
    wpAny (model X.prog X.w) X.A (eval a X.env) (fun v s₁ => wpAny (model X.prog X.w) X.A (eval b X.env) (fun u s₂ => wpAny (model X.prog X.w) X.A (f v u) Q X.xe s₂) X.xe s₁) X.xe s := by
  refine thn (ha pins s σ H _ I h) fun v s1 ⟨x, H1, I1, r1, q1⟩ => ?_
  refine thn (hb pins s1 σ H1 _ I1 q1) fun u s2 ⟨y, H2, I2, r2, q2⟩ => ?_
  exact hf v u s2 x y H2 I2 r1 r2 q2

theorem pe_op {op : Operator} {r : R2} (ho : OpR X (binaryOp op) r) (ha : PE X a ta) (hb : PE X b tb) : PE X (.BinOp a op b pos) (tOp r ta tb) := by
  intro pins s σ H Q I h
  exact wpAny_BinOp (binT ha hb I h fun v u s2 x y H2 I2 rx ry q => ho pins s2 σ H2 x y v u Q I2 rx ry q)
theorem pe_un {op : UnaryOp} {r : V → Hp → VK → Prop} (ho : UnR X (unaryOp op) r) (ha : PE X a ta) : PE X (.UnaryOp op a pos) (tUn r ta) := by
  intro pins s σ H Q I h
  exact UnaryOp_ (thn (ha pins s σ H _ I h) fun v s1 ⟨x, H1, I1, r1, q1⟩ => ho pins s1 σ H1 x v Q I1 r1 q1)

/-! ### ints -/
theorem opI {f : Value → Value → Sem Value} {C : Int → Int → Prop} {g : Int → Int → Int}
    (rule : ∀ (i j : Int) (t u : Tok) (s : Shared) (Q : Value → Shared → Prop) (E : Value → Shared → Prop), C i j → Q (.int (g i j) s.toks) { s with toks := s.toks + 1 } → wpAny (model X.prog X.w) X.A (f (.int i t) (.int j u)) Q E s) :
    OpR X f (rI C fun i j => .int (g i j)) := by
  intro pins s σ H x y v u Q I rx ry h
  obtain ⟨i, j, rfl, rfl, hc, q⟩ := h
  obtain ⟨t, rfl⟩ := rx
  obtain ⟨t', rfl⟩ := ry
  exact rule i j t t' s _ _ hc ⟨.int (g i j), H, I.tok _, ⟨_, rfl⟩, q⟩
theorem opI0 {f : Value → Value → Sem Value} {g : Int → Int → Int}
    (rule : ∀ (i j : Int) (t u : Tok) (s : Shared) (Q : Value → Shared → Prop) (E : Value → Shared → Prop), Q (.int (g i j) s.toks) { s with toks := s.toks + 1 } → wpAny (model X.prog X.w) X.A (f (.int i t) (.int j u)) Q E s) :
    OpR X f (rI0 fun i j => .int (g i j)) := by
  intro pins s σ H x y v u Q I rx ry h
  obtain ⟨i, j, rfl, rfl, q⟩ := h
  obtain ⟨t, rfl⟩ := rx
  obtain ⟨t', rfl⟩ := ry
  exact rule i j t t' s _ _ ⟨.int (g i j), H, I.tok _, ⟨_, rfl⟩, q⟩
theorem opB0 {f : Value → Value → Sem Value} {g : Int → Int → Bool}
    (rule : ∀ (i j : Int) (t u : Tok) (s : Shared) (Q : Value → Shared → Prop) (E : Value → Shared → Prop), Q (.bool (g i j)) s → wpAny (model X.prog X.w) X.A (f (.int i t) (.int j u)) Q E s) :
    OpR X f (rI0 fun i j => .bl (g i j)) := by
  intro pins s σ H x y v u Q I rx ry h
  obtain ⟨i, j, rfl, rfl, q⟩ := h
  obtain ⟨t, rfl⟩ := rx
  obtain ⟨t', rfl⟩ := ry
  exact rule i j t t' s _ _ ⟨.bl (g i j), H, I, rfl, q⟩

noncomputable def CDiv (i j : Int) : Prop := 0 < j ∧ j < 1073741824
noncomputable def CMul (i j : Int) : Prop := (-(2 ^ 64) < i ∧ i < 2 ^ 64) ∨ (-(2 ^ 64) < j ∧ j < 2 ^ 64)
theorem CMul.ok {i j : Int} (h : CMul i j) : IntMulOk i j := by
  rcases h with ⟨h1, h2⟩ | ⟨h1, h2⟩
  · exact .of_left (intBits_le_64 h1 h2)
  · exact .of_right (intBits_le_64 h1 h2)

theorem op_add : OpR X (binaryOp .Add) (rI0 fun i j => .int (i + j)) := opI0 fun _ _ _ _ _ _ _ q => add_int q
theorem op_sub : OpR X (binaryOp .Sub) (rI0 fun i j => .int (i - j)) := opI0 fun _ _ _ _ _ _ _ q => sub_int q
theorem op_mul : OpR X (binaryOp .Mult) (rI CMul fun i j => .int (i * j)) := opI fun _ _ _ _ _ _ _ hc q => mul_int q hc.ok
/-- // by a positive divisor -/
theorem op_fdiv : OpR X (binaryOp .FloorDiv) (rI CDiv fun i j => .int (i / j)) := opI fun i j _ _ _ _ _ hc q => by
  have h1 : (0 : Int) < j := hc.1
  have h2 : j < 1073741824 := hc.2
  exact floordiv_int (by omega) (by rw [Int.fdiv_eq_ediv_of_nonneg i (by omega)]; exact q) (.inl (PyProof.noPylong_small (by omega)))
/-- % by a positive divisor of any size -/
theorem op_mod : OpR X (binaryOp .Mod) (rI (fun _ j => 0 < j) fun i j => .int (i % j)) := opI fun i j _ _ _ _ _ hc q => by
  have h1 : (0 : Int) < j := hc
  exact mod_int' (by omega) (by rw [Int.fmod_eq_emod_of_nonneg i (by omega)]; exact q)


theorem unI {f : Value → Sem Value} {g : Int → Int}
    (rule : ∀ (i : Int) (t : Tok) (s : Shared) (Q : Value → Shared → Prop) (E : Value → Shared → Prop), Q (.int (g i) s.toks) { s with toks := s.toks + 1 } → wpAny (model X.prog X.w) X.A (f (.int i t)) Q E s) :
    UnR X f (rU fun i => .int (g i)) := by
  intro pins s σ H x v Q I rx h
  obtain ⟨i, rfl, q⟩ := h
  obtain ⟨t, rfl⟩ := rx
  exact rule i t s _ _ ⟨.int (g i), H, I.tok _, ⟨_, rfl⟩, q⟩
theorem un_neg : UnR X (unaryOp .USub) (rU fun i => .int (-i)) := unI fun _ _ _ _ _ q => neg_int q

/-! ### bools among ints: n += (a < b) -/
end

/-! ### comparisons -/
/-- the scalars that == tells apart as data does -/
noncomputable def scal : V → V → Bool
  | .non, .non => true | .non, .int _ => true | .int _, .non => true | .non, .bl _ => true | .bl _, .non => true | .non, .str _ => true | .str _, .non => true
  | .int _, .int _ => true | .bl _, .bl _ => true | .str _, .str _ => true | .byt _, .byt _ => true
  | .int _, .str _ => true | .str _, .int _ => true | .bl _, .str _ => true | .str _, .bl _ => true
  | _, _ => false
noncomputable def rEq : R2 := fun x y H Q => scal x y = true ∧ Q (.bl (decide (x = y))) H

theorem dec_int {i j : Int} : decide (V.int i = V.int j) = (i == j) := by
  rw [Bool.eq_iff_iff]
  simp
theorem dec_bl {i j : Bool} : decide (V.bl i = V.bl j) = (i == j) := by
  rw [Bool.eq_iff_iff]
  simp
theorem dec_str {i j : Str} : decide (V.str i = V.str j) = (i == j) := by
  rw [Bool.eq_iff_iff]
  simp
theorem dec_byt {i j : Array UInt8} : decide (V.byt i = V.byt j) = (i.toList == j.toList) := by
  rw [Bool.eq_iff_iff]
  cases i
  cases j
  simp

section
variable {X : Cx} {a b c : Expr} {ta tb tc : TE} {pos : Pos}
theorem fin_bl {pins : List (Addr × Obj)} {σ : St} {H : Hp} {s : Shared} {Q : VK} {k k' : Bool} (I : Inv X pins σ H s) (q : Q (.bl k) H) (e : k = k') : EP X pins σ Q (.bool k') s := by
  subst e
  exact ⟨.bl k, H, I, rfl, q⟩
theorem op_eq : OpR X (compareOp .Eq) rEq := by
  intro pins s σ H x y v u Q I rx ry h
  obtain ⟨hs, q⟩ := h
  cases x with
  | non =>
    cases rx
    cases y with
    | non => cases ry; exact PySem.EqNone.eq_none_none (fin_bl I q (by simp))
    | bl j => cases ry; exact PySem.EqNone.eq_none_bool (fin_bl I q (by simp))
    | int j => obtain ⟨t', rfl⟩ := ry; exact PySem.EqNone.eq_none_int (fin_bl I q (by simp))
    | str j => obtain ⟨t', rfl⟩ := ry; exact PySem.EqNone.eq_none_str (fin_bl I q (by simp))
    | _ => exact absurd (show false = true from hs) Bool.false_ne_true
  | bl i =>
    cases rx
    cases y with
    | non => cases ry; exact PySem.EqNone.eq_bool_none (fin_bl I q (by simp))
    | bl j => cases ry; exact eq_bool (fin_bl I q dec_bl)
    | str j => obtain ⟨t', rfl⟩ := ry; exact PySem.EqMixed.eq_bool_str (fin_bl I q (by simp))
    | _ => exact absurd (show false = true from hs) Bool.false_ne_true
  | int i =>
    obtain ⟨t, rfl⟩ := rx
    cases y with
    | non => cases ry; exact PySem.EqNone.eq_int_none (fin_bl I q (by simp))
    | int j => obtain ⟨t', rfl⟩ := ry; exact eq_int (fin_bl I q dec_int)
    | str j => obtain ⟨t', rfl⟩ := ry; exact PySem.EqMixed.eq_int_str (fin_bl I q (by simp))
    | _ => exact absurd (show false = true from hs) Bool.false_ne_true
  | str i =>
    obtain ⟨t, rfl⟩ := rx
    cases y with
    | non => cases ry; exact PySem.EqNone.eq_str_none (fin_bl I q (by simp))
    | bl j => cases ry; exact PySem.EqMixed.eq_str_bool (fin_bl I q (by simp))
    | int j => obtain ⟨t', rfl⟩ := ry; exact PySem.EqMixed.eq_str_int (fin_bl I q (by simp))
    | str j => obtain ⟨t', rfl⟩ := ry; exact eq_str (fin_bl I q dec_str)
    | _ => exact absurd (show false = true from hs) Bool.false_ne_true
  | byt i =>
    obtain ⟨t, rfl⟩ := rx
    cases y with
    | byt j => obtain ⟨t', rfl⟩ := ry; exact PySem.W.eq_bytes (fin_bl I q dec_byt)
    | _ => exact absurd (show false = true from hs) Bool.false_ne_true
  | _ => cases y <;> exact absurd (show false = true from hs) Bool.false_ne_true

theorem op_lt : OpR X (compareOp .Lt) (rI0 fun i j => .bl (decide (i < j))) := opB0 fun _ _ _ _ _ _ _ q => lt_int q
theorem op_le : OpR X (compareOp .LtE) (rI0 fun i j => .bl (decide (i ≤ j))) := opB0 fun _ _ _ _ _ _ _ q => le_int q
theorem op_gt : OpR X (compareOp .Gt) (rI0 fun i j => .bl (decide (j < i))) := opB0 fun _ _ _ _ _ _ _ q => gt_int q
theorem op_ge : OpR X (compareOp .GtE) (rI0 fun i j => .bl (decide (j ≤ i))) := opB0 fun _ _ _ _ _ _ _ q => ge_int q




theorem nomark (b : Expr) {op : CmpOp} (h : op ≠ .In := by decide) (h2 : op ≠ .NotIn := by decide) : behindInMarks op b = false := by
  have e1 : (op == CmpOp.In) = false := by cases op <;> first | rfl | exact absurd rfl h
  have e2 : (op == CmpOp.NotIn) = false := by cases op <;> first | rfl | exact absurd rfl h2
  cases b <;> simp [behindInMarks, e1, e2]
/-- a comparison as a value; hm: nomark b, or (for in, not in) by with_unfolding_all rfl -/
theorem pe_cmpR {op : CmpOp} {r : R2} (ho : OpR X (compareOp op) r) (ha : PE X a ta) (hb : PE X b tb) (hm : behindInMarks op b = false) : PE X (.Compare a [op] [b] pos) (tOp r ta tb) := by
  intro pins s σ H Q I h
  exact wpAny_Compare1 (binT ha hb I h fun v u s2 x y H2 I2 rx ry q => ho pins s2 σ H2 x y v u Q I2 rx ry q) hm
/-- a reading of a value as a test -/
noncomputable def tTest (t : TE) : TT := fun σ H Q => t σ H fun x H' => ∃ k, x = .bl k ∧ Q k H'
theorem pt_cmpR {op : CmpOp} {r : R2} (ho : OpR X (compareOp op) r) (ha : PE X a ta) (hb : PE X b tb) (hm : behindInMarks op b = false) : PT X (.Compare a [op] [b] pos) (tTest (tOp r ta tb)) := by
  intro pins s σ H Q I h
  refine wpAny_isTrue_Compare1 (thn (ha pins s σ H _ I h) fun v s1 ⟨x, H1, I1, r1, q1⟩ => thn (hb pins s1 σ H1 _ I1 q1) fun u s2 ⟨y, H2, I2, r2, q2⟩ =>
    thn (ho pins s2 σ H2 x y v u _ I2 r1 r2 q2) fun c s3 ⟨z, H3, I3, r3, k, e, q3⟩ => ?_) hm
  subst e
  cases r3
  exact wpAny_truthy_bool ⟨H3, I3, q3⟩
/-- a op1 b op2 c -/
noncomputable def tChain (r r' : R2) (ta tb tc : TE) : TE := fun σ H Q => ta σ H fun x H1 => tb σ H1 fun y H2 => r x y H2 fun z H3 => ∃ k, z = .bl k ∧
  (if k = true then tc σ H3 fun w' H4 => r' y w' H4 Q else Q (.bl false) H3)
theorem pt_chain {op op' : CmpOp} {r r' : R2} (ho : OpR X (compareOp op) r) (ho' : OpR X (compareOp op') r') (ha : PE X a ta) (hb : PE X b tb) (hc : PE X c tc)
    (hm : lastMarks [op, op'] [b, c] = false := by with_unfolding_all rfl) : PT X (.Compare a [op, op'] [b, c] pos) (tTest (tChain r r' ta tb tc)) := by
  intro pins s σ H Q I h
  refine isTrue_chain (thn (ha pins s σ H _ I h) fun v s1 ⟨x, H1, I1, r1, q1⟩ => test_link (thn (hb pins s1 σ H1 _ I1 q1) fun u s2 ⟨y, H2, I2, r2, q2⟩ =>
    thn (ho pins s2 σ H2 x y v u _ I2 r1 r2 q2) fun d s3 ⟨z, H3, I3, r3, k, e, q3⟩ => ?_)) hm
  subst e
  cases r3
  refine wpAny_truthy_bool ?_
  cases k with
  | false =>
    obtain ⟨k', e', q'⟩ := q3
    cases e'
    exact ite_ff ⟨H3, I3, q'⟩
  | true =>
    refine ite_tt (test_last (thn (hc pins s3 σ H3 _ I3 q3) fun w' s4 ⟨z', H4, I4, r4, q4⟩ => thn (ho' pins s4 σ H4 y z' u w' _ I4 r2 r4 q4) fun d' s5 ⟨z2, H5, I5, r5, k2, e2, q5⟩ => ?_))
    subst e2
    cases r5
    exact wpAny_truthy_bool ⟨H5, I5, q5⟩

/-! ### truth -/
/-- a value's truth by the abstract heap -/
noncomputable def TruV (K : PySem.W.Frag) (x : V) (H : Hp) (k : Bool) : Prop :=
  match x with
  | .non => k = false
  | .bl b => k = b
  | .int i => k = (i != 0)
  | .str y => y.length ≤ sizeLine ∧ k = ((y.length : Int) != 0)
  | .byt y => y.size ≤ sizeLine ∧ k = ((y.size : Int) != 0)
  | .ref p => (∃ xs, SqL K H p xs ∧ k = !xs.isEmpty) ∨ (∃ xs, SqT K H p xs ∧ k = !xs.isEmpty) ∨ ∃ kvs, H p = some (.dK kvs) ∧ k = !kvs.isEmpty
  | _ => False
theorem isEmpty_kv {κ : Type} {kvs : List (κ × V)} {vs : List (κ × Value)} (r : KV kvs vs) : (!vs.isEmpty) = !kvs.isEmpty := by
  cases r <;> rfl
theorem isEmpty_of {xs : List V} {its : List Value} (r : Vals xs its) : (!its.toArray.isEmpty) = !xs.isEmpty := by
  cases r <;> simp
theorem line63 : (sizeLine : Nat) < 2 ^ 63 := by rw [sizeLine_eq]; decide
theorem tru_ok : TruR X (fun x H Q => ∃ k, TruV X.K x H k ∧ Q k H) := by
  intro pins s σ H x v Q I rx h
  obtain ⟨k, e, q⟩ := h
  have hl := line63
  have hs : sizeLine = 16777216 := sizeLine_eq
  cases x with
  | non =>
    cases rx
    have e' : k = false := e
    subst e'
    exact truthy_none ⟨H, I, q⟩
  | bl b =>
    cases rx
    have e' : k = b := e
    subst e'
    exact wpAny_truthy_bool ⟨H, I, q⟩
  | int i =>
    obtain ⟨t, rfl⟩ := rx
    have e' : k = (i != 0) := e
    subst e'
    exact PySem.P.truthy_int ⟨H, I, q⟩
  | str y =>
    obtain ⟨t, rfl⟩ := rx
    obtain ⟨hy, e'⟩ : y.length ≤ sizeLine ∧ k = ((y.length : Int) != 0) := e
    subst e'
    exact PySem.P.truthy_str (by omega) ⟨H, I.tok _, q⟩
  | byt y =>
    obtain ⟨t, rfl⟩ := rx
    obtain ⟨hy, e'⟩ : y.size ≤ sizeLine ∧ k = ((y.size : Int) != 0) := e
    subst e'
    exact PySem.W.truthy_bytes (by omega) ⟨H, I.tok _, q⟩
  | ref p =>
    cases rx
    have e' : (∃ xs, SqL X.K H p xs ∧ k = !xs.isEmpty) ∨ (∃ xs, SqT X.K H p xs ∧ k = !xs.isEmpty) ∨ ∃ kvs, H p = some (.dK kvs) ∧ k = !kvs.isEmpty := e
    rcases e' with ⟨xs, hx, e'⟩ | ⟨xs, hx, e'⟩ | ⟨kvs, hx, e'⟩
    · subst e'
      obtain ⟨its, r, pl, hz⟩ := I.list hx
      have hlen := r.length
      exact wpAny_truthy_list pl.isList (by simp only [List.size_toArray]; omega) ⟨H, I.tok _, by rw [isEmpty_of r]; exact q⟩
    · subst e'
      obtain ⟨its, r, pl, hz⟩ := I.tuple hx
      have hlen := r.length
      exact truthy_tuple pl (by simp only [List.size_toArray]; omega) ⟨H, I.tok _, by rw [isEmpty_of r]; exact q⟩
    · subst e'
      obtain ⟨hz, hS, vs, r, m⟩ : kvs.length ≤ sizeLine ∧ (p == sysModules) = false ∧ ∃ vs, KV kvs vs ∧ s.heap.DictOf (mixKind X.prog X.w) p vs := I.hok p _ hx
      have hlen : kvs.length = vs.length := Paired.length r
      exact wpAny_truthy_dict hS m (by omega) ⟨H, I.tok _, by rw [isEmpty_kv r]; exact q⟩
  | _ => exact (show False from e).elim
/-- any expression whose test is its value's truth (a name, a call, a subscript, a field ..: he by fun _ => rfl) -/
theorem pt_truth (ha : PE X a ta) (he : ∀ whole, isTrue a X.env whole = (do let v ← whole; standAt a.pos; holding [v] (truthy v))) :
    PT X a (fun σ H Q => ta σ H fun x H' => ∃ k, TruV X.K x H' k ∧ Q k H') := by
  intro pins s σ H Q I h
  exact isTrue_plain (thn (ha pins s σ H _ I h) fun v s1 ⟨x, H1, I1, r1, q1⟩ => tru_ok pins s1 σ H1 x v Q I1 r1 q1) (he _)

/-! ### strs and bytes -/


/-! ### scalar builtins, by CallR -/
theorem vals1 {x : V} {us : List Value} (r : Vals [x] us) : ∃ u, us = [u] ∧ RelV x u := by
  cases r with
  | cons r1 r2 => cases r2; exact ⟨_, rfl, r1⟩
theorem vals2 {x y : V} {us : List Value} (r : Vals [x, y] us) : ∃ u w', us = [u, w'] ∧ RelV x u ∧ RelV y w' := by
  cases r with
  | cons r1 r2 =>
    cases r2 with
    | cons r3 r4 => cases r4; exact ⟨_, _, rfl, r1, r3⟩
theorem call_max2 (hc : X.calm = true) : CallR X (.builtin "max") (fun xs H Q => ∃ i j, xs = [.int i, .int j] ∧ Q (.int (if j > i then j else i)) H) := by
  intro pins s σ H xs us Q I r h
  obtain ⟨i, j, rfl, q⟩ := h
  obtain ⟨u, w', rfl, ⟨t, rfl⟩, ⟨t', rfl⟩⟩ := vals2 r
  refine max_two_ints (I.ok.hd hc) fun h' tk k => ⟨_, H, I.kept k, ?_, q⟩
  by_cases hj : j > i
  · rw [if_pos hj, if_pos hj]; exact ⟨_, rfl⟩
  · rw [if_neg hj, if_neg hj]; exact ⟨_, rfl⟩
theorem call_min2 (hc : X.calm = true) : CallR X (.builtin "min") (fun xs H Q => ∃ i j, xs = [.int i, .int j] ∧ Q (.int (if j < i then j else i)) H) := by
  intro pins s σ H xs us Q I r h
  obtain ⟨i, j, rfl, q⟩ := h
  obtain ⟨u, w', rfl, ⟨t, rfl⟩, ⟨t', rfl⟩⟩ := vals2 r
  refine min_two_ints (I.ok.hd hc) fun h' tk k => ⟨_, H, I.kept k, ?_, q⟩
  by_cases hj : j < i
  · rw [if_pos hj, if_pos hj]; exact ⟨_, rfl⟩
  · rw [if_neg hj, if_neg hj]; exact ⟨_, rfl⟩
theorem call_int1 : CallR X (.type "int") (fun xs H Q => (∃ i, xs = [.int i] ∧ Q (.int i) H) ∨ ∃ k, xs = [.bl k] ∧ Q (.int (if k then 1 else 0)) H) := by
  intro pins s σ H xs us Q I r h
  rcases h with ⟨i, rfl, q⟩ | ⟨k, rfl, q⟩
  · obtain ⟨u, rfl, t, rfl⟩ := vals1 r
    exact call_int_int ⟨.int i, H, I, ⟨_, rfl⟩, q⟩
  · obtain ⟨u, rfl, r1⟩ := vals1 r
    cases r1
    exact call_int_bool ⟨.int (if k then 1 else 0), H, I.tok _, ⟨_, rfl⟩, q⟩
end
end L2

namespace L2
open PySem PySem.Spec PyProof.Rows

/-! ### an instance, its attributes a map -/
structure ObjM (h : Heap) (x dx C : Addr) (mA : Str → Option Value) : Prop where
  obj : h.get? x = some (PySem.W.instObj C dx)
  ns : h.Ns1 dx mA
  ne : dx ≠ x

theorem lookIn_ns {h : Heap} {dx : Addr} {mA : Str → Option Value} (n : h.Ns1 dx mA) : ∃ od, h.get? dx = some od ∧ ∀ name, PySem.W.lookIn name od = some (mA name) := by
  obtain ⟨o, es, ep, ho, hd, hk, _, hm⟩ := n
  refine ⟨o, ho, fun name => ?_⟩
  have e := hm name
  unfold nsFind findBy at e
  rw [← Array.find?_toList] at e
  unfold PySem.W.lookIn
  rw [hd]
  dsimp only
  split
  · rename_i y q
    rw [q] at e
    exact congrArg some e
  · rename_i q
    rw [q] at e
    have a : es.toList.any (·.refKey) = false := by
      rw [List.any_eq_false]
      intro y hy
      obtain ⟨z, t, hkey⟩ := hk y (Array.mem_toList_iff.mp hy)
      simp [DictEntry.refKey, hkey]
    have a' : ¬ es.toList.any (·.refKey) = true := by rw [a]; exact Bool.false_ne_true
    rw [if_neg a']
    exact congrArg some e

theorem ObjM.look {h : Heap} {x dx C : Addr} {mA : Str → Option Value} (I : ObjM h x dx C mA) : ∃ od, PySem.W.InstAt h x (PySem.W.instObj C dx) C (some od) ∧ ∀ name, PySem.W.lookIn name od = some (mA name) :=
  let ⟨od, ho, hl⟩ := lookIn_ns I.ns
  ⟨od, ⟨I.obj, rfl, rfl, ho⟩, hl⟩

section
variable {prog : Program} {w : World} {A : Around} {E : Value → Shared → Prop} {s : Shared} {K : PySem.W.Frag} {x dx C f : Addr} {mA : Str → Option Value} {name : Str} {v : Value}





end

/-! ### the attributes as a list of pairs -/


section
variable {P : Program} {w : World} {H H' : Hp} {h h' : Heap} {a C dx : Addr} {fs fs' : List (Str × V)}
theorem ins_get (hok : HOk P w H h) (e : H a = some (.ins C dx fs)) : ∃ mA, ObjM h a dx C mA ∧ (∀ f, RelO (fs.lookup f) (mA f)) ∧ PySem.Within mA (fs.map (·.1)) ∧ fs.length ≤ 1000 ∧ H dx = some (.own a) := by
  obtain ⟨d, z, ne, ob, mA, n, r, q⟩ := (show ObjOk P w H h a (.ins C dx fs) from hok a _ e)
  exact ⟨mA, ⟨ob, n, ne⟩, r, q, z, d⟩
end

/-! ### what of the text a class must have -/
structure Cls (K : PySem.W.Frag) (C : Addr) : Prop where
  pg : PySem.W.plainGet K C Str.empty = true
  hd : PySem.W.hasDictIn K C = true
  po : PySem.W.plainOver K C = true
  sa : PySem.W.findIn K (.ref C) "__setattr__" = some (some (.builtin "object.__setattr__"))
theorem Cls.get {K : PySem.W.Frag} {C : Addr} (c : Cls K C) (f : Str) : PySem.W.plainGet K C f = true := c.pg

section
variable {X : Cx} {pins : List (Addr × Obj)} {σ : St} {H : Hp} {s : Shared} {a C dx : Addr} {fs : List (Str × V)} {f : Str} {v : V} {A : Around} {E : Value → Shared → Prop}






end

/-! ### readings and rules -/

section
variable {X : Cx} {o e value : Expr} {f : Str} {pos pos' tpos : Pos} {ta tv : TE}

end

/-! ### isinstance -/
section
variable {X : Cx} {pins : List (Addr × Obj)} {σ : St} {H : Hp} {s : Shared} {A : Around} {E : Value → Shared → Prop} {Q : Value → Shared → Prop} {c : Value} {b : Bool}
/-- the type of a value, as the fragment's deciders take it; for an instance its class -/
inductive TyOf (K : PySem.W.Frag) (H : Hp) : V → Value → Prop where
  | non : TyOf K H .non (.type "NoneType")
  | bl (x : Bool) : TyOf K H (.bl x) (.type "bool")
  | int (i : Int) : TyOf K H (.int i) (.type "int")
  | str (x : Str) : TyOf K H (.str x) (.type "str")
  | flt (x : UInt64) : TyOf K H (.flt x) (.type "float")
  | lst {a : Addr} {xs : List V} (e : H a = some (.lst xs)) : TyOf K H (.ref a) (.type "list")
  | frz {a : Addr} {o : Obj} {xs : List V} (e : H a = some (.frz o (.lst xs))) : TyOf K H (.ref a) (.type "list")
  | tup {a : Addr} {xs : List V} (e : H a = some (.tup xs)) : TyOf K H (.ref a) (.type "tuple")
  | dK {a : Addr} {kvs : List (Key × V)} (e : H a = some (.dK kvs)) : TyOf K H (.ref a) (.type "dict")
  | dT {a : Addr} {kvs : List (List Key × V)} (e : H a = some (.dT kvs)) : TyOf K H (.ref a) (.type "dict")
  | ins {a C dx : Addr} {fs : List (Str × V)} (e : H a = some (.ins C dx fs)) (cl : Cls K C) (ha : PySem.W.findIn K (.ref C) "__class__" = some (some (.builtin "object.__class__")))
      (hn : PySem.W.specialIn K (.builtin "object.__class__") "__get__" = some (some (.builtin "getset_descriptor.__get__"))) (htk : PySem.W.takesIn K (.builtin "object.__class__") = some true)
      (hm : PySem.W.mroIn K C (.type "object") = some true) : TyOf K H (.ref a) (.ref C)
/-- isinstance(x, c) for one class c, a built-in or an own one: kitOne's answer -/
theorem isinst_ok {x : V} {u t : Value} (I : Inv X pins σ H s) (rx : RelV x u) (ty : TyOf X.K H x t) (e : PySem.W.kitOne X.K t c = some b) (h : ∀ tk, Q (.bool b) { s with toks := tk }) :
    wpAny (model X.prog X.w) A (call (.builtin "isinstance") [u, c]) Q E s := by
  cases ty with
  | non => cases (show u = Value.none from rx); exact PySem.W.kia_one PySem.W.kitx_none I.kIn True.intro e (fun z => nomatch z) h
  | bl y => cases (show u = Value.bool y from rx); exact PySem.W.kia_one PySem.W.kitx_bool I.kIn True.intro e (fun z => nomatch z) h
  | int i => obtain ⟨t, q⟩ := (show ∃ t, u = Value.int i t from rx); cases q; exact PySem.W.kia_one PySem.W.kitx_int I.kIn True.intro e (fun z => nomatch z) h
  | str y => obtain ⟨t, q⟩ := (show ∃ t, u = Value.str y t from rx); cases q; exact PySem.W.kia_one PySem.W.kitx_str I.kIn True.intro e (fun z => nomatch z) h
  | flt y => obtain ⟨t, q⟩ := (show ∃ t, u = Value.float y t from rx); cases q; exact PySem.W.kia_one PySem.W.kitx_float I.kIn True.intro e (fun z => nomatch z) h
  | @lst a xs ea =>
    cases (show u = Value.ref a from rx)
    obtain ⟨_, _, n, _, h1⟩ := (show ObjOk X.prog X.w H s.heap a (.lst xs) from I.hok a _ ea)
    exact PySem.W.kia_one PySem.W.kitx_list I.kIn ⟨_, h1, rfl⟩ e (fun z => nomatch z) h
  | @frz a ob xs ea =>
    cases (show u = Value.ref a from rx)
    obtain ⟨_, _, _, n, _, h1⟩ := (show ObjOk X.prog X.w H s.heap a (.frz ob (.lst xs)) from I.hok a _ ea)
    exact PySem.W.kia_one PySem.W.kitx_list I.kIn ⟨_, h1, rfl⟩ e (fun z => nomatch z) h
  | @tup a xs ea =>
    cases (show u = Value.ref a from rx)
    obtain ⟨_, _, _, p⟩ := (show ObjOk X.prog X.w H s.heap a (.tup xs) from I.hok a _ ea)
    obtain ⟨o, h1, h2, _⟩ := p
    exact PySem.W.kia_one PySem.W.kitx_tuple I.kIn ⟨o, h1, h2⟩ e (fun z => nomatch z) h
  | @dK a kvs ea =>
    cases (show u = Value.ref a from rx)
    obtain ⟨_, _, vs, _, p⟩ := (show ObjOk X.prog X.w H s.heap a (.dK kvs) from I.hok a _ ea)
    obtain ⟨o, es, ep, h1, h2, _⟩ := p
    exact PySem.W.kia_one PySem.W.kitx_dict I.kIn ⟨o, h1, h2.1⟩ e (fun z => nomatch z) h
  | @dT a kvs ea =>
    cases (show u = Value.ref a from rx)
    obtain ⟨_, _, xs, _, o, es, ep, h1, h2, _⟩ := (show ObjOk X.prog X.w H s.heap a (.dT kvs) from I.hok a _ ea)
    exact PySem.W.kia_one PySem.W.kitx_dict I.kIn ⟨o, h1, h2.1⟩ e (fun z => nomatch z) h
  | @ins a C dx fs ea cl ha hn htk hm =>
    cases (show u = Value.ref a from rx)
    obtain ⟨mA, O, _⟩ := ins_get I.hok ea
    obtain ⟨od, J, _⟩ := O.look
    exact PySem.W.kia_one (PySem.W.kitx_own (cl.get _) cl.hd ha hn htk hm) I.kIn J e (fun z => nomatch z) h
end
end L2

namespace L2
open PySem PySem.Spec PyProof.Rows

/-! ### room -/
structure Room (k : Nat) (A : Around) : Prop where
  hd : A.handled = none
  dp : A.depth + 3 * k + 5 < recursionLimit
  un : A.units + 16 * k + 200 < cLine
theorem Room.mono {j k : Nat} {A : Around} (r : Room k A) (h : j ≤ k) : Room j A := ⟨r.hd, by have := r.dp; omega, by have := r.un; omega⟩
theorem Room.deeper {k : Nat} {A : Around} (r : Room (k + 1) A) (env : Env) : Room k (A.deeper env) :=
  ⟨r.hd, by have := r.dp; show A.depth + 1 + 3 * k + 5 < _; omega, by have := r.un; show A.units + 3 + 16 * k + 200 < _; omega⟩
theorem Room.in1 {k : Nat} {A : Around} (r : Room (k + 1) A) : Room k A.in1 :=
  ⟨r.hd, by have := r.dp; show A.depth + 3 * k + 5 < _; omega, by have := r.un; show A.units + 1 + 16 * k + 200 < _; omega⟩
theorem Room.depth {k : Nat} {A : Around} (r : Room k A) : A.depth < recursionLimit := by have := r.dp; omega
theorem Room.units {k : Nat} {A : Around} (r : Room k A) : A.units + 64 < cLine := by have := r.un; omega

/-! ### argument lists and displays -/
noncomputable def tNil : TA := fun _ H Q => Q [] H
noncomputable def tCons (ta : TE) (tr : TA) : TA := fun σ H Q => ta σ H fun x H1 => tr σ H1 fun xs H2 => Q (x :: xs) H2
section
variable {X : Cx} {e : Expr} {es : List Expr} {te : TE} {t : TA} {pos : Pos}
theorem pa_nil : PA X [] tNil := fun _ _ _ _ H Q I h => Calls.spliced_nil ⟨[], H, I, .nil, h⟩
theorem pa_cons (ha : PE X e te) (hr : PA X es t) (hs : starEach (e :: es) X.env = (false, eval e X.env) :: starEach es X.env := by rfl) : PA X (e :: es) (tCons te t) := by
  intro pos pins s σ H Q I h
  rw [hs]
  show wpAny _ _ (spliced ((false, eval e X.env) :: backTo pos (starEach es X.env))) _ _ s
  refine Calls.spliced_cons (thn (ha pins s σ H _ I h) fun u s1 ⟨x, H1, I1, r1, q1⟩ => ?_)
  exact thn (hr pos pins s1 σ H1 _ I1 q1) fun us s2 ⟨xs, H2, I2, r2, q2⟩ => ⟨x :: xs, H2, I2, .cons r1 r2, q2⟩

/-- a tuple, a list of written items -/
noncomputable def tTup (t : TA) : TE := fun σ H Q => t σ H fun xs H1 => xs.length ≤ sizeLine ∧ ∀ p, H1 p = none → Q (.ref p) (upd H1 p (.tup xs))
noncomputable def tLst (t : TA) : TE := fun σ H Q => t σ H fun xs H1 => xs.length ≤ sizeLine ∧ ∀ p, H1 p = none → Q (.ref p) (upd H1 p (.lst xs))
theorem pe_tup {x1} (h : PA X es t) : PE X (.Tuple es x1 pos) (tTup t) := by
  intro pins s σ H Q I hq
  refine wpAny_Tuple_spliced (thn (h pos pins s σ H _ I hq) fun us s1 ⟨xs, H1, I1, r, z, q⟩ => ⟨by rw [← r.length]; exact z, ?_⟩)
  have hf : H1 s1.heap.objs.size = none := I1.hok.fresh (Nat.le_refl _)
  refine ⟨.ref s1.heap.objs.size, upd H1 s1.heap.objs.size (.tup xs), I1.laid (t' := s1.toks) (fun b u e => Heap.get?_push_of_some _ e) (Nat.le_refl _) ?_, rfl, q _ hf⟩
  exact ⟨z, us, r, ⟨_, Heap.get?_push_size _ rfl, rfl, _, rfl⟩⟩
theorem pe_lst (h : PA X es t) : PE X (.List es pos) (tLst t) := by
  intro pins s σ H Q I hq
  refine wpAny_List_spliced (thn (h pos pins s σ H _ I hq) fun us s1 ⟨xs, H1, I1, r, z, q⟩ => ⟨by rw [← r.length]; exact z, ?_⟩)
  have hf : H1 s1.heap.objs.size = none := I1.hok.fresh (Nat.le_refl _)
  refine ⟨.ref s1.heap.objs.size, upd H1 s1.heap.objs.size (.lst xs), I1.laid (t' := s1.toks) (fun b u e => Heap.get?_push_of_some _ e) (Nat.le_refl _) ?_, rfl, q _ hf⟩
  exact ⟨z, us, 0, r, Heap.get?_push_size _ rfl⟩
end

/-! ### what a def promises -/
/-- a def's promise: the bound arguments in the parameters' order, the heap, the wanted end, the wanted exception -/
noncomputable abbrev Sp := List V → Hp → VK → XK → Prop
/-- how an exception lies behind a call (file 08 gives it): the callers' frames, abstract heap and state ahead of the call, the wish, the exception, the state -/
noncomputable abbrev CXT := List Env → Hp → Shared → XK → Value → Shared → Prop

/-- the state at a call -/
structure Env0 (P : Program) (w : World) (K : PySem.W.Frag) (mg : Str → Option Value) (base : Heap) (A : Around) (outer : List Env) (s : Shared) (H : Hp) : Prop where
  frames : A.frames = some outer
  mod : Mod K mg base
  bs : ∀ b o, base.get? b = some o → s.heap.get? b = some o ∧ H b = none
  bsz : base.objs.size ≤ s.heap.objs.size
  funs : s.heap.FunFrames base outer
  frf : ∀ b ∈ frs outer, H b = none
  hok : HOk P w H s.heap
  bare : AllBare s.gens
/-- a call's end -/
noncomputable def CE (outer : List Env) (P : Program) (w : World) (H : Hp) (s : Shared) (Q : VK) (u : Value) (s' : Shared) : Prop :=
  ∃ v H', s'.os = s.os ∧ AllBare s'.gens ∧ Un (frs outer) [] H H' s.heap s'.heap ∧ HOk P w H' s'.heap ∧ RelV v u ∧ Q v H'
noncomputable def CR (CX : CXT) (outer : List Env) (P : Program) (w : World) (H : Hp) (s : Shared) (Q : VK) (E : XK) (r : Result) (s' : Shared) : Prop :=
  match r with
  | .ok (.ret u) => CE outer P w H s Q u s'
  | .ok _ => False
  | .error e => CX outer H s E e s'
structure FnOk (P : Program) (w : World) (K : PySem.W.Frag) (mg : Str → Option Value) (base : Heap) (CX : CXT) (k : Nat) (f : Addr) (fd : FuncData) (ps : List Str) (sp : Sp) : Prop where
  len : ∀ vs H Q E, sp vs H Q E → vs.length = ps.length
  run : ∀ (A : Around) (outer : List Env) (s : Shared) (H : Hp) (args : Args) (us : List Value) (vs : List V) (Q : VK) (E : XK), Room k A → Env0 P w K mg base A outer s H → BindsTo s fd args (ps.zip us) → Vals vs us → sp vs H Q E →
    codeAny (model P w) A (.call (.ref f) args) (CR CX outer P w H s Q E) s

theorem Env0.in1 {P : Program} {w : World} {K : PySem.W.Frag} {mg : Str → Option Value} {base : Heap} {A : Around} {outer : List Env} {s : Shared} {H : Hp} (e : Env0 P w K mg base A outer s H) :
    Env0 P w K mg base A.in1 outer s H := ⟨e.frames, e.mod, e.bs, e.bsz, e.funs, e.frf, e.hok, e.bare⟩

section
variable {X : Cx} {pins : List (Addr × Obj)} {σ : St} {H : Hp} {s s' : Shared}
/-- from a body: what a callee wants -/
theorem Inv.env0 (I : Inv X pins σ H s) : Env0 X.prog X.w X.K X.mg X.base X.A X.stack s H :=
  ⟨I.ok.frames, I.ok.mod, I.bs, Nat.le_trans I.ok.bsz I.sz, I.stack, I.stkFree, I.hok, I.bare⟩
/-- behind a call -/
theorem Inv.after {Q : VK} {u : Value} (I : Inv X pins σ H s) (h : CE X.stack X.prog X.w H s Q u s') : EP X pins σ Q u s' := by
  obtain ⟨v, H', os, bare, un, hok, r, q⟩ := h
  obtain ⟨hh, g, d, t, os'⟩ := s'
  obtain rfl : os' = s.os := os
  exact ⟨v, H', I.call (h' := hh) (g' := g) (d' := d) (t' := t) (ch := []) un hok bare (fun b z => absurd z (by simp)), r, q⟩
end

/-! ### calls -/
/-- f(..): the written arguments, then the defaults dvs; E: what is wanted of an exception -/
noncomputable def tCall (sp : Sp) (dvs : List V) (E : XK) (t : TA) : TE := fun σ H Q => t σ H fun vs H1 => sp (vs ++ dvs) H1 Q E

/-- how the parameters are bound: us the positional arguments, kw the keywords' values by name, ds the defaults that fill up -/
noncomputable def Binds (K : PySem.W.Frag) (fd : FuncData) (ps : List Str) (ds : List Value) : Prop :=
  ∀ (s : Shared) (us : List Value), K.In s.heap → (us ++ ds).length = ps.length → BindsTo s fd ⟨us, []⟩ (ps.zip (us ++ ds))
/-- every parameter is given -/
theorem Binds.all {K : PySem.W.Frag} {fd : FuncData} {ps : List Str} (h : ∀ us : List Value, us.length = ps.length → bindArgs fd ⟨us, []⟩ = pure (ps.zip us)) : Binds K fd ps [] := fun s us _ hl => by
  rw [List.append_nil] at hl ⊢
  exact .of_eq (h us hl)

/-- an exception of a callee reaches what this body wants of exceptions -/
noncomputable def Passes (CX : CXT) (X : Cx) (E : XK) : Prop := ∀ (pins : List (Addr × Obj)) (σ : St) (H : Hp) (s : Shared) (e : Value) (s' : Shared), Inv X pins σ H s → CX X.stack H s E e s' → X.xe e s'

section
variable {X : Cx} {CX : CXT} {k : Nat} {f C : Addr} {fd : FuncData} {ps : List Str} {sp : Sp} {dvs : List V} {ds : List Value} {E : XK} {x m : Str} {p pos apos : Pos} {e o : Expr} {es : List Expr} {ta : TE} {t : TA}

/-- the callee runs -/
theorem run_fn {pins : List (Addr × Obj)} {σ : St} {H : Hp} {s : Shared} {Q : VK} {us : List Value} {vs : List V} (F : FnOk X.prog X.w X.K X.mg X.base CX k f fd ps sp) (hr : Room k X.A) (hb : Binds X.K fd ps ds) (hd : Vals dvs ds) (hx : Passes CX X E)
    (I : Inv X pins σ H s) (r : Vals vs us) (h : sp (vs ++ dvs) H Q E) : wpAny (model X.prog X.w) X.A (call (.ref f) us) (EP X pins σ Q) X.xe s := by
  have r2 : Vals (vs ++ dvs) (us ++ ds) := r.append hd
  have hl : (us ++ ds).length = ps.length := by rw [← r2.length]; exact F.len _ _ _ _ h
  refine wpAny_call (codeAny_mono (F.run X.A X.stack s H ⟨us, []⟩ (us ++ ds) (vs ++ dvs) Q E hr I.env0 (hb s us I.kIn hl) r2 h) fun r s' hq => ?_)
  cases r with
  | error e => exact hx pins σ H s e s' I hq
  | ok fl =>
    cases fl with
    | ret u => exact I.after hq
    | next => exact False.elim hq
    | brk => exact False.elim hq
    | cont => exact False.elim hq

theorem pe_call (F : FnOk X.prog X.w X.K X.mg X.base CX k f fd ps sp) (hr : Room k X.A) (hg : Gl X x) (hm : X.mg x = some (.ref f)) (hk : PySem.W.keepIn X.K (.ref f) = true) (hb : Binds X.K fd ps ds) (hd : Vals dvs ds) (hx : Passes CX X E)
    (ha : PA X (e :: es) t) (hdb : (x == ("__debug__" : Str)) = false := by decide) (he : starEach (e :: es) X.env = (false, eval e X.env) :: starEach es X.env := by rfl) (hpl : (backTo pos (starEach es X.env)).any (·.1) = false := by rfl) :
    PE X (.Call (.Name x p) (e :: es) [] pos) (tCall sp dvs E t) := by
  intro pins s σ H Q I h
  refine wpAny_Call_Name_kw (ld_glob I hg hm ?_ hdb)
  refine PySem.W.callWith_K (h₀ := X.base) I.ok.mod.kin hk (thn (ha pos pins s σ H _ I h) fun us s1 ⟨vs, H1, I1, r, q⟩ => ⟨I1.kIn, ?_⟩) he hpl
  exact run_fn F hr hb hd hx I1 r q



end

/-! ### keywords -/
/-- the values of the keywords, from the left -/
noncomputable def PK (X : Cx) (kws : List Keyword) (t : TA) : Prop :=
  ∀ (pos : Pos) (pins : List (Addr × Obj)) (s : Shared) (σ : St) (H : Hp) (Q : List V → Hp → Prop), Inv X pins σ H s → t σ H Q → wpAny (model X.prog X.w) X.A (evalAll ((backToKw pos (keywordEach kws X.env)).map (·.2))) (AP X pins σ Q) X.xe s
section
variable {X : Cx} {CX : CXT} {k : Nat} {f C : Addr} {fd : FuncData} {ps ks : List Str} {sp : Sp} {E : XK} {x m : Str} {p pos apos kpos : Pos} {e o : Expr} {es : List Expr} {kws : List Keyword} {te ta : TE} {t tk : TA} {nm : Option Str}
theorem pk_nil : PK X [] tNil := fun _ _ _ _ H Q I h => wpAny_evalAll_nil ⟨[], H, I, .nil, h⟩
theorem pk_cons (ha : PE X e te) (hr : PK X kws t) : PK X (⟨nm, e, kpos⟩ :: kws) (tCons te t) := by
  intro pos pins s σ H Q I h
  show wpAny _ _ (evalAll ((do let v ← eval e X.env; standAt pos; pure v) :: (backToKw pos (keywordEach kws X.env)).map (·.2))) _ _ s
  refine wpAny_evalAll_cons (wpAny_bind (thn (ha pins s σ H _ I h) fun u s1 ⟨x, H1, I1, r1, q1⟩ => wpAny_bind (wpAny_standAt (wpAny_pure ?_))))
  exact thn (hr pos pins s1 σ H1 _ I1 q1) fun us s2 ⟨xs, H2, I2, r2, q2⟩ => ⟨x :: xs, H2, I2, .cons r1 r2, q2⟩

variable {g : List Value → List Value → List Value} {gV : List V → List V → List V}
end

/-! ### a def's body keeps its promise -/
/-- names: the parameters first -/
structure FnScope (N P : List Str) (sc : Scope) : Prop where
  kind : sc.kind = .function
  co : sc.isCoroutine = false
  gen : sc.isGenerator = false
  nd : N.Nodup
  pre : N.take P.length = P
  par : ∀ x ∈ P, sc.names.lookup x = some .local ∨ sc.names.lookup x = some .cell
  nofree : ∀ y ∈ sc.names, y.2 ≠ .free

theorem bindL_out {kindOf : Str → Option NameKind} {x : Str} : ∀ {binds : List (Str × Value)} {m : Str → Option Value}, (∀ v, (x, v) ∉ binds) → bindL kindOf binds m x = m x
  | [], _, _ => rfl
  | (n, v) :: r, m, h => by
    unfold bindL
    rw [bindL_out fun w hw => h w (List.mem_cons_of_mem _ hw)]
    split
    · have : x ≠ n := by rintro rfl; exact h v List.mem_cons_self
      simp [this]
    · rfl
theorem bindC_out {kindOf : Str → Option NameKind} {x : Str} : ∀ {binds : List (Str × Value)} {m : Str → Option Value}, (∀ v, (x, v) ∉ binds) → bindC kindOf binds m x = m x
  | [], _, _ => rfl
  | (n, v) :: r, m, h => by
    unfold bindC
    rw [bindC_out fun w hw => h w (List.mem_cons_of_mem _ hw)]
    split
    · rfl
    · have : x ≠ n := by rintro rfl; exact h v List.mem_cons_self
      simp [this]
theorem bindL_get {kindOf : Str → Option NameKind} {x : Str} {v : Value} : ∀ {P : List Str} {vs : List Value} {i : Nat} {m : Str → Option Value}, P.Nodup → P[i]? = some x → vs[i]? = some v → kindOf x = some .local →
    bindL kindOf (P.zip vs) m x = some v
  | [], _, _, _, _, h, _, _ => by simp at h
  | _ :: _, [], _, _, _, _, h, _ => by simp at h
  | p :: P, w :: vs, 0, m, nd, h1, h2, hk => by
    simp at h1 h2; subst h1; subst h2
    show bindL kindOf ((p, w) :: P.zip vs) m p = _
    unfold bindL
    rw [bindL_out fun v hv => (List.nodup_cons.mp nd).1 (List.of_mem_zip hv).1, if_pos hk]
    simp
  | p :: P, w :: vs, i + 1, m, nd, h1, h2, hk => by
    show bindL kindOf ((p, w) :: P.zip vs) m x = _
    unfold bindL
    exact bindL_get (i := i) (List.nodup_cons.mp nd).2 (by simpa using h1) (by simpa using h2) hk
theorem bindC_get {kindOf : Str → Option NameKind} {x : Str} {v : Value} : ∀ {P : List Str} {vs : List Value} {i : Nat} {m : Str → Option Value}, P.Nodup → P[i]? = some x → vs[i]? = some v → kindOf x ≠ some .local →
    bindC kindOf (P.zip vs) m x = some v
  | [], _, _, _, _, h, _, _ => by simp at h
  | _ :: _, [], _, _, _, _, h, _ => by simp at h
  | p :: P, w :: vs, 0, m, nd, h1, h2, hk => by
    simp at h1 h2; subst h1; subst h2
    show bindC kindOf ((p, w) :: P.zip vs) m p = _
    unfold bindC
    rw [bindC_out fun v hv => (List.nodup_cons.mp nd).1 (List.of_mem_zip hv).1, if_neg hk]
    simp
  | p :: P, w :: vs, i + 1, m, nd, h1, h2, hk => by
    show bindC kindOf ((p, w) :: P.zip vs) m x = _
    unfold bindC
    exact bindC_get (i := i) (List.nodup_cons.mp nd).2 (by simpa using h1) (by simpa using h2) hk

/-- the names' values at the entry -/
noncomputable def start (N : List Str) (vs : List V) : St := vs.map some ++ List.replicate (N.length - vs.length) none

/-- the context of a def's body, at its entry; an exception leaves the frame, then lies as CX says -/
noncomputable def cxOf (CX : CXT) (P : Program) (w : World) (K : PySem.W.Frag) (mg : Str → Option Value) (base : Heap) (N : List Str) (qual : Str) (scope : Scope) (f : Addr) (cd : Value) (A : Around) (outer : List Env) (s : Shared) (H : Hp) (E : XK) : Cx where
  prog := P
  w := w
  K := K
  mg := mg
  base := base
  A := A.deeper (envOfC qual scope s.heap.objs.size f cd)
  N := N
  s₀ := s
  H₀ := H
  env := envOfC qual scope s.heap.objs.size f cd
  outer := outer
  stack := envOfC qual scope s.heap.objs.size f cd :: outer
  ex := []
  calm := true
  fn := fun _ => true
  pn := []
  xe := fun e s' => wpAny (model P w) (A.deeper (envOfC qual scope s.heap.objs.size f cd)) (leaving (envOfC qual scope s.heap.objs.size f cd) e) (fun _ s'' => CX outer H s E e s'') (fun e' s'' => CX outer H s E e' s'') s'

theorem cell_has {sc : Scope} {n : Nat} {x : Str} (h : sc.names.lookup x = some .cell) : ∃ c, (cellsFrom n sc.names []).lookup x = some c := by
  have q := PySem.W.cellsFrom_some sc.names n [] (.inl h)
  exact Option.isSome_iff_exists.mp q

theorem inv_start {CX : CXT} {P : Program} {w : World} {K : PySem.W.Frag} {mg : Str → Option Value} {base : Heap} {N ps : List Str} {qual : Str} {scope : Scope} {f : Addr} {cd : Value} {A : Around} {outer : List Env} {s s1 : Shared} {H : Hp} {E : XK} {us : List Value} {vs : List V}
    (S : FnScope N ps scope) (hd : A.handled = none) (e0 : Env0 P w K mg base A outer s H) (hl : vs.length = ps.length) (r : Vals vs us)
    (x : InCallC s s.heap.objs.size (bindL (envOfC qual scope s.heap.objs.size f cd).kindOf (ps.zip us) fun _ => none) (cellsFrom (s.heap.objs.size + 1) scope.names []) (bindC (envOfC qual scope s.heap.objs.size f cd).kindOf (ps.zip us) fun _ => none) s1) :
    Inv (cxOf CX P w K mg base N qual scope f cd A outer s H E) [] (start N vs) H s1 := by
  have hpl : ps.length ≤ N.length := by have := congrArg List.length S.pre; rw [List.length_take] at this; omega
  obtain ⟨h1, tk, rfl, hk⟩ := x.done
  have noA : ∀ b : Addr, b ∉ (cxOf CX P w K mg base N qual scope f cd A outer s H E).ex := fun b z => absurd (show b ∈ ([] : List Addr) from z) (by simp)
  refine ⟨⟨e0.mod, S.kind, rfl, rfl, Nat.le_refl _, fun y z c h1 h2 => ?_, fun y hy => ?_, fun y c _ h => ?_, fun _ => hd, Around.frames_deeper e0.frames, .inr ⟨rfl, rfl⟩, fun b z => absurd z (noA b), e0.bs, e0.bsz, fun b _ _ => noA b, fun b z => absurd z (noA b), e0.funs, e0.frf⟩,
    rfl, e0.bare, Un.kept hk, ⟨_, x.toInCall.ns, fun i y v h1 h2 h3 => ?_⟩, fun y c h => ⟨_, x.cell y c h⟩, e0.hok.fresh (Nat.le_refl _), fun y c h => ?_, fun p hp => absurd (show p ∈ ([] : List (Addr × Obj)) from hp) (by simp), e0.hok.kept hk, ?_⟩
  · exact name_of_addr x.apart (PySem.mem_of_lookup h1) (PySem.mem_of_lookup h2)
  · have hy : scope.names.lookup y = some .cell ∨ scope.names.lookup y = some .free := hy
    rcases hy with hy | hy
    · exact cell_has hy
    · exact absurd rfl (S.nofree _ (PySem.mem_of_lookup hy))
  · exact Nat.le_of_lt (x.above y c (PySem.mem_of_lookup h))
  · have hi : i < vs.length := by
      unfold start at h2
      by_cases hi : i < vs.length
      · exact hi
      · rw [List.getElem?_append_right (by simpa using hi)] at h2
        rw [List.getElem?_replicate] at h2
        split at h2 <;> cases h2
    have ha : vs[i]? = some v := by
      unfold start at h2
      rw [List.getElem?_append_left (by simpa using hi), List.getElem?_map] at h2
      cases e : vs[i]? with
      | none => rw [e] at h2; cases h2
      | some a => rw [e] at h2; cases h2; rfl
    obtain ⟨u, hu, rv⟩ := r.get ha
    have hp : ps[i]? = some y := by
      rw [← S.pre, List.getElem?_take_of_lt (by omega)]; exact h1
    have ndP : ps.Nodup := by rw [← S.pre]; exact S.nd.sublist (List.take_sublist _ _)
    refine ⟨u, rv, ?_⟩
    rcases S.par y (List.mem_of_getElem? hp) with k | k
    · exact .inl ⟨k, bindL_get ndP hp hu k⟩
    · obtain ⟨c, e⟩ := cell_has (n := s.heap.objs.size + 1) k
      refine .inr ⟨.inl k, c, e, ?_⟩
      have q := x.cell y c e
      rw [bindC_get ndP hp hu (by show scope.names.lookup y ≠ _; rw [k]; decide)] at q
      exact q
  · exact e0.hok.fresh (Nat.le_of_lt (x.above y c (PySem.mem_of_lookup h)))
  · unfold start
    show _ = N.length
    rw [List.length_append, List.length_map, List.length_replicate]
    omega

/-- THE RULE: a def (or a method) of the text, by its body. The body's reading t is chosen for each entry; it is run at the parameters' values -/
theorem fn_of {CX : CXT} {P : Program} {w : World} {K : PySem.W.Frag} {mg : Str → Option Value} {base : Heap} {k : Nat} {f : Addr} {name qual : Str} {params : Arguments} {body : List Stmt} {scope : Scope} {dV kV doc pm cdv ct oc : Value} {an od : Option Addr}
    {osl : Array (Option Value)} {N ps : List Str} {sp : Sp} (lk : K.lookup f = some ⟨oc, od, .func (PySem.W.fnOf name qual params body scope dV kV doc pm an cdv ct), osl⟩) (hcd : PySem.W.codeIn K cdv qual = true) (S : FnScope N ps scope)
    (len : ∀ vs H Q E, sp vs H Q E → vs.length = ps.length)
    (hbody : ∀ (A : Around) (outer : List Env) (s : Shared) (H : Hp) (vs : List V) (Q : VK) (E : XK), Room k (A.deeper (envOfC qual scope s.heap.objs.size f cdv)) → sp vs H Q E →
      ∃ t, PSs (cxOf CX P w K mg base N qual scope f cdv A outer s H E) body t ∧ t { nx := fun _ H' => Q .non H', rt := Q } (start N vs) H) :
    FnOk P w K mg base CX (k + 1) f (PySem.W.fnOf name qual params body scope dV kV doc pm an cdv ct) ps sp := by
  refine ⟨len, fun A outer s H args us vs Q E hr e0 hb r hsp => ?_⟩
  have hl := len _ _ _ _ hsp
  have KX : K.In s.heap := e0.mod.kin.keeps fun b o e => (e0.bs b o e).1
  have lim : s.heap.NoLimit := e0.mod.nolimit.keeps fun b o e => (e0.bs b o e).1
  have hkind : ∀ y ∈ ps.zip us, scope.names.lookup y.1 = some .local ∨ (scope.names.lookup y.1 = some .cell ∧ ((cellsFrom (s.heap.objs.size + 1) scope.names []).lookup y.1).isSome = true) := fun ⟨n, v⟩ hy => by
    rcases S.par n (List.of_mem_zip hy).1 with q | q
    · exact .inl q
    · exact .inr ⟨q, PySem.W.cellsFrom_some _ _ _ (.inl q)⟩
  refine codeAny_call_function hr.depth (KX _ _ lk) rfl S.co S.gen rfl (PySem.W.codeRec_of KX hcd) (hb _ _ _ _ ?_)
  refine wpAny_newFunctionEnv_cells S.kind hkind fun env he s1 x => ?_
  subst he
  refine ⟨lim.keeps x.toInCall.keep, codeAny_func ?_⟩
  obtain ⟨t, ht, hq⟩ := hbody A outer s H vs Q E (hr.deeper _) hsp
  have I : Inv (cxOf CX P w K mg base N qual scope f cdv A outer s H E) [] (start N vs) H s1 := inv_start S hr.hd e0 hl r x
  refine wpAny_mono (ht [] s1 (start N vs) H _ I hq) (fun fl s' hs => ?_) fun e s' hs => hs
  have fin : ∀ {σ' : St} {H' : Hp} {v : V} {u : Value}, Inv (cxOf CX P w K mg base N qual scope f cdv A outer s H E) [] σ' H' s' → RelV v u → Q v H' → CE outer P w H s Q u s' :=
    fun {σ' H' v u} J rv q => ⟨v, H', J.os, J.bare, J.base, J.hok, rv, q⟩
  cases fl with
  | ret u =>
    obtain ⟨v, σ', H', J, rv, q⟩ := hs
    exact fin J rv q
  | next =>
    obtain ⟨σ', H', J, q⟩ := hs
    exact fin (v := V.non) (u := Value.none) J rfl q
  | brk =>
    obtain ⟨_, _, _, q⟩ := hs
    exact False.elim q
  | cont =>
    obtain ⟨_, _, _, q⟩ := hs
    exact False.elim q
end L2

namespace L2
open PySem PySem.Spec PyProof.Rows
section
variable {X : Cx} {x : Str} {p pos : Pos} {e : Expr} {es : List Expr} {t : TA} {id T : String} {r : List V → Hp → VK → Prop}

noncomputable def tCB (r : List V → Hp → VK → Prop) (t : TA) : TE := fun σ H Q => t σ H fun vs H1 => r vs H1 Q
/-- f(e, ..), f a built-in function -/
theorem pe_callB (hc : CallR X (.builtin id) r) (hg : Gl X x) (hm : X.mg x = none) (hv : bootBuiltins x = some (.builtin id)) (ha : PA X (e :: es) t) (hn : x ≠ "__name__" := by decide) (hdb : (x == ("__debug__" : Str)) = false := by decide)
    (he : starEach (e :: es) X.env = (false, eval e X.env) :: starEach es X.env := by rfl) (hpl : (backTo pos (starEach es X.env)).any (·.1) = false := by rfl) : PE X (.Call (.Name x p) (e :: es) [] pos) (tCB r t) := by
  intro pins s σ H Q I h
  refine wpAny_Call_Name_kw (ld_blt I hg hm hv ?_ hn hdb)
  exact PyProof.Rows.callWith_builtin1 (thn (ha pos pins s σ H _ I h) fun us s1 ⟨vs, H1, I1, r1, q1⟩ => hc pins s1 σ H1 vs us Q I1 r1 q1) he hpl
/-- T(e, ..), T a built-in type -/
theorem pe_callTy (hc : CallR X (.type T) r) (hg : Gl X x) (hm : X.mg x = none) (hv : bootBuiltins x = some (.type T)) (ha : PA X (e :: es) t) (hn : x ≠ "__name__" := by decide) (hdb : (x == ("__debug__" : Str)) = false := by decide)
    (he : starEach (e :: es) X.env = (false, eval e X.env) :: starEach es X.env := by rfl) (hpl : (backTo pos (starEach es X.env)).any (·.1) = false := by rfl) : PE X (.Call (.Name x p) (e :: es) [] pos) (tCB r t) := by
  intro pins s σ H Q I h
  refine wpAny_Call_Name_kw (ld_blt I hg hm hv ?_ hn hdb)
  exact PyProof.Rows.callWith_type1 (thn (ha pos pins s σ H _ I h) fun us s1 ⟨vs, H1, I1, r1, q1⟩ => hc pins s1 σ H1 vs us Q I1 r1 q1) he hpl
end
end L2

namespace L2
open PySem PySem.Spec PyProof.Rows

/-! ### lists of pairs as tables -/
section
variable {κ : Type} [DecidableEq κ]



end


/-! ### a tracked dict, its keys ints and texts or tuples of these -/


section
variable {P : Program} {w : World} {H : Hp} {h : Heap} {a : Addr}
end



section
variable {X : Cx} {pins : List (Addr × Obj)} {σ : St} {H : Hp} {s : Shared} {a : Addr} {y v : V} {u r : Value} {o : Option V} {A : Around} {E : Value → Shared → Prop}


end

section
variable {X : Cx} {pins : List (Addr × Obj)} {σ : St} {H : Hp} {s : Shared} {a : Addr} {kvs : List (Key × V)} {k : Key} {u : Value} {A : Around} {E : Value → Shared → Prop}
end


/-! ### readings and rules -/



section
variable {X : Cx} {o i e value : Expr} {pos pos' tpos : Pos} {td ty tv : TE}
end


/-! ### displays -/
section
variable {X : Cx} {pos : Pos}
end




/-! ### methods -/


section
variable {X : Cx} {pins : List (Addr × Obj)} {σ : St} {H : Hp} {s : Shared} {a : Addr} {y d : V} {u r : Value} {o : Option V} {A : Around} {E : Value → Shared → Prop}
end

section
variable {X : Cx} {o e f : Expr} {apos cpos : Pos} {td ty tx : TE}
end

/-! ### dict(d): a copy -/
section
variable {X : Cx} {pins : List (Addr × Obj)} {σ : St} {H : Hp} {s : Shared} {a : Addr} {kvs : List (Key × V)} {A : Around} {E : Value → Shared → Prop}
end


section
variable {X : Cx} {pins : List (Addr × Obj)} {σ : St} {H : Hp} {s : Shared} {a : Addr} {y : V} {u : Value} {A : Around} {E : Value → Shared → Prop}
end
end L2


namespace HT
open PySem PyProof.Rows

/-- t < u of tuples of ints -/
noncomputable def lexLt : List Int → List Int → Bool
  | [], [] => false
  | [], _ :: _ => true
  | _ :: _, [] => false
  | x :: xs, y :: ys => if x = y then lexLt xs ys else decide (x < y)
theorem lexLt_cons (x y : Int) (xs ys : List Int) : lexLt (x :: xs) (y :: ys) = if x = y then lexLt xs ys else decide (x < y) := rfl
theorem lexLt_nil_nil : lexLt [] [] = false := rfl
theorem lexLt_nil_cons (y : Int) (ys : List Int) : lexLt [] (y :: ys) = true := rfl
theorem lexLt_cons_nil (x : Int) (xs : List Int) : lexLt (x :: xs) [] = false := rfl

theorem eqAt_int (A : Around) (s : Shared) (a : Int) (t : Tok) (c : Int) (u : Tok) : ∃ e, SeqAt.EqAt A s (.int a t) (.int c u) e ∧ (e = true ↔ a = c) :=
  ⟨(a == c), SeqAt.EqAt.int_int a t c u, by simp⟩
theorem rcLt_int (A : Around) (s : Shared) (a : Int) (t : Tok) (c : Int) (u : Tok) (prog : Program) (w : World) (E : Value → Shared → Prop) (Q : Value → Shared → Prop) (h : Q (.bool (decide (a < c))) s) :
    wpAny (model prog w) A (richCompare .Lt (.int a t) (.int c u)) Q E s :=
  (PyProof.Rows.lt_int h : wpAny (model prog w) A (compareOp .Lt (.int a t) (.int c u)) Q E s)

section
open PySem.SeqAt
open PySem.AutoSeq1 (wpAny_loadPart')
open PySem.MeetsSeq PySem.MeetsSeq2 PySem.MeetsSeq3

theorem tuple_lt_ints (l b : Addr) (items items2 : Array Value) (n n2 : Nat) (dd dd2 : Option Addr) (sl sl2 : Array (Option Value)) (ns ms : List Int) (hi : IntsAre items.toList ns) (hj : IntsAre items2.toList ms) :
    Meets (Builtin.«tuple.__lt__» ⟨[.ref l, .ref b], []⟩)
      (fun _ R s => s.heap.get? l = some { cls := .type "tuple", dict := dd, data := .seq items n, slots := sl } ∧ s.heap.get? b = some { cls := .type "tuple", dict := dd2, data := .seq items2 n2, slots := sl2 } ∧
        R (.ok (.ret (.bool (lexLt ns ms)))) s) :=
  .of_wp fun prog w A R s h => by
    obtain ⟨hp, g, d, tk, os⟩ := s; obtain ⟨hl, hb, h⟩ := h
    have f2 := AutoSeq1.sub_tuple_tuple
    have z1 : items.size = ns.length := by rw [← hi.length]; simp
    have z2 : items2.size = ms.length := by rw [← hj.length]; simp
    wp_walk using wpAny_loadPart' hl, wpAny_loadPart' hb, wpAny_forIn_list _ (fun rest b s' => b.1 = none ∧ s' = ⟨hp, g, d, tk, os⟩ ∧ ∃ (vs ws : List Value) (ns' ms' : List Int), rest = vs.zip ws ∧
      IntsAre vs ns' ∧ IntsAre ws ms' ∧ ns'.length + items2.size = ms'.length + items.size ∧ R (.ok (.ret (.bool (lexLt ns' ms')))) ⟨hp, g, d, tk, os⟩) _
    case turn =>
      rintro ⟨y, x⟩ rest b s' ⟨hb', rfl, vs, ws, ns', ms', hz, hvi, hwi, hlen, hR⟩
      cases hvi with
      | nil => rw [List.zip_nil_left] at hz; cases hz
      | cons a t hvi' =>
        cases hwi with
        | nil => rw [List.zip_nil_right] at hz; cases hz
        | cons c u hwi' =>
          rw [List.zip_cons_cons] at hz
          injection hz with hyx hrest
          injection hyx with hy hx
          subst hy hx
          rw [lexLt_cons] at hR
          simp only [List.length_cons] at hlen
          obtain ⟨e, he, hiff⟩ := eqAt_int A.in1 ⟨hp, g, d, tk, os⟩ a t c u
          refine wpAny_bind (he prog w _ _ ?_)
          cases e with
          | true =>
            rw [if_pos (hiff.mp rfl)] at hR
            wp_walk
            exact ⟨rfl, rfl, _, _, _, _, hrest, hvi', hwi', by omega, hR⟩
          | false =>
            rw [if_neg (fun q => absurd (hiff.mpr q) Bool.false_ne_true)] at hR
            have hri := rcLt_int A.in1 ⟨hp, g, d, tk, os⟩ a t c u prog w
            wp_walk using hri
            exact ⟨_, rfl, by simpa using hR⟩
    case fin =>
      rintro ⟨b1, b2⟩ s' ⟨hb', rfl, vs, ws, ns', ms', hz, hvi, hwi, hlen, hR⟩
      simp only at hb'
      subst hb'
      have hv : lexLt ns' ms' = decide (items.size < items2.size) := by
        cases hvi with
        | nil =>
          cases hwi with
          | nil =>
            simp only [List.length_nil] at hlen
            rw [lexLt_nil_nil]
            exact (decide_eq_false (by omega)).symm
          | cons c u hw =>
            simp only [List.length_nil, List.length_cons] at hlen
            rw [lexLt_nil_cons]
            exact (decide_eq_true (by omega)).symm
        | cons a t hv =>
          cases hwi with
          | nil =>
            simp only [List.length_nil, List.length_cons] at hlen
            rw [lexLt_cons_nil]
            exact (decide_eq_false (by omega)).symm
          | cons c u hw =>
            rw [List.zip_cons_cons] at hz
            cases hz
      rw [hv] at hR
      wp_walk
      exact ⟨_, rfl, by simpa [Builtin.Tuple.tupleCompareSizes] using hR⟩
    case h =>
      exact ⟨rfl, rfl, items.toList, items2.toList, ns, ms, rfl, hi, hj, by omega, h⟩
end

section
variable {prog : Program} {w : World} {A : Around} {E : Value → Shared → Prop} {s : Shared}

theorem lt_tupInts {l b : Addr} {items items2 : Array Value} {ns ms : List Int} {Q : Value → Shared → Prop} (hl : IsTup s.heap l items) (hb : IsTup s.heap b items2) (hi : IntsAre items.toList ns) (hj : IntsAre items2.toList ms)
    (hu : A.units < cLine) (h : Q (.bool (lexLt ns ms)) s) : wpAny (model prog w) A (compareOp .Lt (.ref l) (.ref b)) Q E s := by
  obtain ⟨⟨cls, dd, data, sl⟩, ho, hc, n, hd⟩ := id hl
  obtain ⟨⟨cls2, dd2, data2, sl2⟩, ho2, hc2, n2, hd2⟩ := id hb
  simp only at hc hd hc2 hd2
  subst hc hd hc2 hd2
  exact richCompare_meets_room (op := .Lt) ⟨_, ho, rfl⟩ ⟨_, ho2, rfl⟩ PySem.F.slot_tuple_lt PySem.F.entry_tuple_lt (PySem.F.args_tuple_lt_2 _ _) (tuple_lt_ints l b items items2 n n2 dd dd2 sl sl2 ns ms hi hj)
    ⟨ho, ho2, show Value.bool (lexLt ns ms) ≠ Value.notImplemented ∧ Q (.bool (lexLt ns ms)) s from ⟨(fun x => nomatch x), h⟩⟩ hu

/-- t + u, t not empty -/
theorem cat_tup {t b : Addr} {vs ws : List Value} {Q : Value → Shared → Prop} (ht : IsTup s.heap t vs.toArray) (hb : IsTup s.heap b ws.toArray) (hv : vs ≠ [])
    (h1 : ws = [] → Q (.ref t) s) (h2 : ws ≠ [] → Q (.ref s.heap.objs.size) { s with heap := s.heap.push { cls := .type "tuple", data := .seq (vs ++ ws).toArray } })
    (hsz : vs.length + ws.length ≤ sizeLine) : wpAny (model prog w) A (binaryOp .Add (.ref t) (.ref b)) Q E s := by
  obtain ⟨⟨cls, dd, data, sl⟩, ho, hc, n, hd⟩ := id ht
  obtain ⟨⟨cls2, dd2, data2, sl2⟩, ho2, hc2, n2, hd2⟩ := id hb
  simp only at hc hd hc2 hd2
  subst hc hd hc2 hd2
  have e : vs.toArray ++ ws.toArray = (vs ++ ws).toArray := by simp
  by_cases hw : ws = []
  · exact concat_meets ⟨_, ho, rfl⟩ ⟨_, ho2, rfl⟩ noFill_tuple_add seq_tuple_add PySem.F.slot_tuple_add PySem.F.entry_tuple_add (PySem.F.args_tuple_add_2 _ _)
      (tuple_addW1 t b vs.toArray ws.toArray n n2 dd dd2 sl sl2 (by simpa using hv) (by simp [hw])) ⟨ho, ho2, h1 hw⟩
  · refine concat_meets ⟨_, ho, rfl⟩ ⟨_, ho2, rfl⟩ noFill_tuple_add seq_tuple_add PySem.F.slot_tuple_add PySem.F.entry_tuple_add (PySem.F.args_tuple_add_2 _ _)
      (tuple_addW2 t b vs.toArray ws.toArray n n2 dd dd2 sl sl2 (by simpa using hv) (by simpa using hw) (by rw [List.size_toArray, List.size_toArray]; exact hsz)) ⟨ho, ho2, ?_⟩
    rw [e]
    exact h2 hw

/-! ### t[a:b], not the whole -/
/-- a slice's bound as a place among n (d where it is left out) -/
noncomputable def sIx (n d : Nat) : Option Int → Nat
  | none => d
  | some v => if v < 0 then (v + (n : Int)).toNat else min v.toNat n
theorem sIx_none (n d : Nat) : sIx n d none = d := rfl
theorem sIx_nat (n d k : Nat) : sIx n d (some (k : Int)) = min k n := by
  show (if (k : Int) < 0 then ((k : Int) + (n : Int)).toNat else min (k : Int).toNat n) = min k n
  rw [if_neg (by omega), Int.toNat_natCast]

end
end HT

namespace L2
open PySem PySem.Spec PyProof.Rows

/-! ### the parts of a slice -/
noncomputable abbrev TO := St → Hp → (Option Int → Hp → Prop) → Prop
/-- a slice's part (left out, or an int) -/
noncomputable def PO (X : Cx) (e : Option Expr) (t : TO) : Prop :=
  ∀ (pins : List (Addr × Obj)) (s : Shared) (σ : St) (H : Hp) (Q : Option Int → Hp → Prop), Inv X pins σ H s → t σ H Q →
    wpAny (model X.prog X.w) X.A (evalPart e X.env) (fun u s' => ∃ o H', Inv X pins σ H' s' ∧ IsPart u o ∧ Q o H') X.xe s
noncomputable def tNoPart : TO := fun _ H Q => Q none H
noncomputable def tPart (t : TE) : TO := fun σ H Q => t σ H fun x H1 => ∃ i, x = .int i ∧ Q (some i) H1

theorem intsAre_of {ns : List Int} : ∀ {us : List Value}, Vals (ns.map V.int) us → IntsAre us ns := by
  induction ns with
  | nil => intro us r; rw [List.map_nil] at r; cases r; exact .nil
  | cons n ns ih =>
    intro us r
    rw [List.map_cons] at r
    cases r with
    | cons r1 r2 =>
      obtain ⟨t, e⟩ := r1
      subst e
      exact .cons n t (ih r2)

section
variable {X : Cx} {e : Expr} {te : TE} {lo hi : Option Expr} {tl th : TO} {pos p2 : Pos}

theorem po_none : PO X none tNoPart := by
  intro pins s σ H Q I h
  rw [evalPart_none]
  exact wpAny_pure ⟨none, H, I, .none, h⟩
theorem po_some (h : PE X e te) : PO X (some e) (tPart te) := by
  intro pins s σ H Q I hw
  rw [evalPart_some]
  refine thn (h pins s σ H _ I hw) fun u s1 ⟨x, H1, I1, r1, q1⟩ => ?_
  obtain ⟨i, rfl, q⟩ := q1
  obtain ⟨t, rfl⟩ := r1
  exact ⟨some i, H1, I1, .int i t, q⟩

/-- what a slice of a value is, by values: the slice object stands at sl -/
noncomputable def SlR (X : Cx) (r : V → Option Int → Option Int → Hp → VK → Prop) : Prop :=
  ∀ (pins : List (Addr × Obj)) (s : Shared) (σ : St) (H : Hp) (x : V) (v vl vu : Value) (lo hi : Option Int) (sl : Addr) (Q : VK), Inv X pins σ H s → RelV x v → s.heap.IsSliceOf sl vl vu .none → IsPart vl lo → IsPart vu hi → r x lo hi H Q →
    ∃ T id, typeLookup (.type T) "__getitem__" = pure (some (.builtin id)) ∧ s.TypeIs v T ∧ wpAny (model X.prog X.w) X.A (getItem v (.ref sl)) (EP X pins σ Q) X.xe s
noncomputable def tSl (r : V → Option Int → Option Int → Hp → VK → Prop) (te : TE) (tl th : TO) : TE := fun σ H Q => te σ H fun x H1 => tl σ H1 fun l H2 => th σ H2 fun u H3 => r x l u H3 Q
/-- a[lo:hi], any a -/
theorem pe_slice {r : V → Option Int → Option Int → Hp → VK → Prop} (hr : SlR X r) (he : PE X e te) (hl : PO X lo tl) (hu : PO X hi th) : PE X (.Subscript e (.Slice lo hi none p2) pos) (tSl r te tl th) := by
  intro pins s σ H Q I h
  refine Subscript_ (thn (he pins s σ H _ I h) fun v s1 ⟨x, H1, I1, r1, q1⟩ => ?_)
  refine wpAny_Slice (thn (hl pins s1 σ H1 _ I1 q1) fun vl s2 ⟨l, H2, I2, pl, q2⟩ => thn (hu pins s2 σ H2 _ I2 q2) fun vu s3 ⟨u, H3, I3, pu, q3⟩ => ?_)
  rw [evalPart_none]
  refine wpAny_pure ?_
  have I4 : Inv X pins σ H3 { s3 with heap := s3.heap.push { cls := .type "slice", data := .fields #[vl, vu, .none] } } := I3.kept (t' := s3.toks) fun b ob q => Heap.get?_push_of_some _ q
  obtain ⟨T, id, hT, ht, hg⟩ := hr pins { s3 with heap := s3.heap.push { cls := .type "slice", data := .fields #[vl, vu, .none] } } σ H3 x v vl vu l u s3.heap.objs.size Q I4 r1 (Heap.IsSliceOf.new ..) pl pu q3
  show wpAny (model X.prog X.w) X.A (subscriptTail e (.Slice lo hi none p2) v (.ref s3.heap.objs.size)) (EP X pins σ Q) X.xe { s3 with heap := s3.heap.push { cls := .type "slice", data := .fields #[vl, vu, .none] } }
  exact tail_any (ops := [.ref s3.heap.objs.size, v]) ht hT hg (by with_unfolding_all rfl)

/-- the items of xs[lo:hi] -/
noncomputable def cutV (xs : List V) (lo hi : Option Int) : List V := (xs.drop (HT.sIx xs.length 0 lo)).take (HT.sIx xs.length xs.length hi - HT.sIx xs.length 0 lo)
theorem cutV_length (xs : List V) (lo hi : Option Int) : (cutV xs lo hi).length ≤ xs.length := by
  unfold cutV
  rw [List.length_take, List.length_drop]
  omega

/-! ### t < u, t + u -/
/-- t + u, t not empty: u empty gives t itself -/
noncomputable def rCatT (K : PySem.W.Frag) : R2 := fun x y H Q => ∃ a b xs ys, x = .ref a ∧ y = .ref b ∧ SqT K H a xs ∧ SqT K H b ys ∧ xs ≠ [] ∧ xs.length + ys.length ≤ sizeLine ∧
  (ys = [] → Q (.ref a) H) ∧ (ys ≠ [] → ∀ p, H p = none → Q (.ref p) (upd H p (.tup (xs ++ ys))))
theorem Vals.nil_iff {xs : List V} {us : List Value} (r : Vals xs us) : us = [] ↔ xs = [] := by
  cases r with
  | nil => simp
  | cons _ _ => simp
theorem op_catT : OpR X (binaryOp .Add) (rCatT X.K) := by
  intro pins s σ H x y v u Q I rx ry h
  obtain ⟨a, b, xs, ys, rfl, rfl, ha, hb, hx, hz, q1, q2⟩ := h
  cases rx
  cases ry
  obtain ⟨its, r1, p1, _⟩ := I.tuple ha
  obtain ⟨its2, r2, p2, _⟩ := I.tuple hb
  refine HT.cat_tup p1 p2 (fun z => hx (r1.nil_iff.mp z)) (fun z => ⟨.ref a, H, I, rfl, q1 (r2.nil_iff.mp z)⟩) (fun z => ?_) (by rw [← r1.length, ← r2.length]; exact hz)
  refine ⟨.ref s.heap.objs.size, _, I.laid (t' := s.toks) (o := .tup (xs ++ ys)) (fun b ob q => Heap.get?_push_of_some _ q) (Nat.le_refl _) ?_, rfl, q2 (fun w => z (r2.nil_iff.mpr w)) _ (I.hok.fresh (Nat.le_refl _))⟩
  exact ⟨by rw [List.length_append]; exact hz, _, r1.append r2, IsTup.new _ _⟩
end
end L2

namespace L2
open PySem PySem.Spec PyProof.Rows

/-! ### places -/
/-- the place that an index of any sign means -/
noncomputable def ixN (n : Nat) (i : Int) : Option Nat := if 0 ≤ i then (if i < n then some i.toNat else none) else if -(n : Int) ≤ i then some (i + n).toNat else none
noncomputable def atI {α : Type} (xs : List α) (i : Int) : Option α := (ixN xs.length i).bind fun j => xs[j]?
theorem ixN_seq {n : Nat} {i : Int} {j : Nat} (h : ixN n i = some j) : seqIndex? i n = some j ∧ j < n ∧ -(n : Int) ≤ i ∧ i < n := by
  unfold ixN at h
  by_cases h0 : 0 ≤ i
  · rw [if_pos h0] at h
    by_cases h1 : i < n
    · rw [if_pos h1] at h
      have e : i.toNat = j := Option.some.inj h
      exact ⟨by rw [seqIndex_of h0 h1, e], by omega, by omega, h1⟩
    · rw [if_neg h1] at h; cases h
  · rw [if_neg h0] at h
    by_cases h1 : -(n : Int) ≤ i
    · rw [if_pos h1] at h
      have e : (i + n).toNat = j := Option.some.inj h
      exact ⟨by rw [seqIndex_neg (by omega) h1, e], by omega, h1, by omega⟩
    · rw [if_neg h1] at h; cases h
theorem atI_get {α : Type} {xs : List α} {i : Int} {v : α} (h : atI xs i = some v) : ∃ j, seqIndex? i xs.length = some j ∧ xs[j]? = some v ∧ j < xs.length ∧ -(xs.length : Int) ≤ i ∧ i < xs.length := by
  unfold atI at h
  cases e : ixN xs.length i with
  | none => rw [e] at h; cases h
  | some j =>
    rw [e] at h
    obtain ⟨h1, h2, h3, h4⟩ := ixN_seq e
    exact ⟨j, h1, h, h2, h3, h4⟩
theorem atI_nat {α : Type} {xs : List α} {j : Nat} {v : α} (h : xs[j]? = some v) : atI xs (j : Int) = some v := by
  have hj : j < xs.length := (List.getElem?_eq_some_iff.mp h).1
  have e : ixN xs.length (j : Int) = some j := by
    unfold ixN
    rw [if_pos (by omega), if_pos (by omega)]; simp
  unfold atI; rw [e]; exact h

/-! ### what may be subscripted -/
/-- what stands as an index of a plain subscript -/
noncomputable def PlainIx (b : Expr) : Prop := ∀ o i, subscripted b false o i = operate [o, i] (getItem o i)
/-- a subscript by values -/
noncomputable def IxR (X : Cx) (r : R2) : Prop :=
  ∀ (value slice : Expr) (pins : List (Addr × Obj)) (s : Shared) (σ : St) (H : Hp) (x y : V) (v u : Value) (Q : VK), Inv X pins σ H s → RelV x v → RelV y u → r x y H Q →
    subscripted slice false v u = operate [v, u] (getItem v u) → wpAny (model X.prog X.w) X.A (subscriptTail value slice v u) (EP X pins σ Q) X.xe s
/-- a call of a builtin's method by values: the receiver, the arguments -/
noncomputable def MtR (X : Cx) (id : String) (r : V → List V → Hp → VK → Prop) : Prop :=
  ∀ (pins : List (Addr × Obj)) (s : Shared) (σ : St) (H : Hp) (x : V) (xs : List V) (v : Value) (us : List Value) (Q : VK), Inv X pins σ H s → RelV x v → Vals xs us → r x xs H Q →
    wpAny (model X.prog X.w) X.A (call (.builtin id) (v :: us)) (EP X pins σ Q) X.xe s
section
variable {X : Cx} {a b : Expr} {ta tb : TE} {pos : Pos}
/-- a[b] -/
theorem pe_ix {r : R2} (hr : IxR X r) (ha : PE X a ta) (hb : PE X b tb) (hs : PlainIx b) : PE X (.Subscript a b pos) (tOp r ta tb) := by
  intro pins s σ H Q I h
  exact Subscript_ (binT ha hb I h fun v u s2 x y H2 I2 rx ry q => hr a b pins s2 σ H2 x y v u Q I2 rx ry q (hs _ _))

noncomputable def rIxL (K : PySem.W.Frag) : R2 := fun x y H Q => ∃ p xs i v, x = .ref p ∧ y = .int i ∧ SqL K H p xs ∧ atI xs i = some v ∧ Q v H
noncomputable def rIxT (K : PySem.W.Frag) : R2 := fun x y H Q => ∃ p xs i v, x = .ref p ∧ y = .int i ∧ SqT K H p xs ∧ atI xs i = some v ∧ Q v H
theorem ix_list : IxR X (rIxL X.K) := by
  intro value slice pins s σ H x y v u Q I rx ry h hs
  obtain ⟨p, xs, i, z, rfl, rfl, hq, he, q⟩ := h
  cases rx
  obtain ⟨t, rfl⟩ := ry
  obtain ⟨its, r, pl, hz⟩ := I.list hq
  obtain ⟨j, h1, h2, h3, h4, h5⟩ := atI_get he
  obtain ⟨w, ew, rw'⟩ := r.get h2
  have hl := r.length
  have hn := line63
  have fin : EP X pins σ Q w s := ⟨z, H, I, rw', q⟩
  by_cases h0 : 0 ≤ i
  · have hj : i.toNat = j := by
      rw [seqIndex_of h0 h5] at h1
      exact Option.some.inj h1
    exact item_listR pl.isList h0 (by omega) (by rw [hj]; simpa using ew) fin hs
  · have hj : (i + (its.toArray.size : Int)).toNat = j := by
      rw [seqIndex_neg (by omega) h4] at h1
      rw [List.size_toArray, ← hl]
      exact Option.some.inj h1
    exact subscriptTail_builtinR (x := w) pl.isList.typeIs slot_list_getitem.lookup
      (wpAny_getItem_list_neg (Q := fun r s' => r = w ∧ EP X pins σ Q r s') pl.isList (by omega) (by rw [List.size_toArray] <;> omega) (by omega) (by rw [hj]; simpa using ew) ⟨rfl, fin⟩) hs
theorem ix_tup : IxR X (rIxT X.K) := by
  intro value slice pins s σ H x y v u Q I rx ry h hs
  obtain ⟨p, xs, i, z, rfl, rfl, hq, he, q⟩ := h
  cases rx
  obtain ⟨t, rfl⟩ := ry
  obtain ⟨its, r, pl, hz⟩ := I.tuple hq
  obtain ⟨j, h1, h2, h3, h4, h5⟩ := atI_get he
  obtain ⟨w, ew, rw'⟩ := r.get h2
  have hl := r.length
  have hn := line63
  have fin : EP X pins σ Q w s := ⟨z, H, I, rw', q⟩
  exact subscriptTail_builtinR (x := w) pl.typeIs slot_tuple_getitem.lookup
    (getItem_tuple (j := j) (Q := fun r s' => r = w ∧ EP X pins σ Q r s') pl (by omega) (by omega) (by rw [List.size_toArray, ← hl]; exact h1) (by simpa using ew) ⟨rfl, fin⟩) hs

/-! ### xs[i] = v, any sign -/
/-- the list's object behind a store -/
theorem mapSeq_set (its : List Value) (n j : Nat) (u : Value) : Obj.mapSeq (·.setIfInBounds j u) { cls := .type "list", data := .seq its.toArray n } = { cls := .type "list", data := .seq (its.set j u).toArray n } := by
  simp [Obj.mapSeq]
theorem Inv.lst {pins : List (Addr × Obj)} {σ : St} {H : Hp} {s : Shared} {p : Addr} {xs : List V} (I : Inv X pins σ H s) (h : H p = some (.lst xs)) :
    ∃ (its : List Value) (n : Nat), Vals xs its ∧ s.heap.get? p = some { cls := .type "list", data := .seq its.toArray n } ∧ xs.length ≤ sizeLine := by
  obtain ⟨z, its, n, r, e⟩ := I.hok p _ h
  exact ⟨its, n, r, e, z⟩
/-- the list at p is written by an update of its object -/
theorem Inv.lstUpd {pins : List (Addr × Obj)} {σ : St} {H : Hp} {s : Shared} {p : Addr} {xs ys : List V} {its its' : List Value} {n n' : Nat} {f : Obj → Obj} (I : Inv X pins σ H s) (h : H p = some (.lst xs))
    (ho : s.heap.get? p = some { cls := .type "list", data := .seq its.toArray n }) (hf : f { cls := .type "list", data := .seq its.toArray n } = { cls := .type "list", data := .seq its'.toArray n' }) (r : Vals ys its') (hz : ys.length ≤ sizeLine) (t : Nat) :
    Inv X pins σ (upd H p (.lst ys)) { s with heap := s.heap.update p f, toks := t } := by
  have e : (s.heap.update p f).get? p = some { cls := .type "list", data := .seq its'.toArray n' } := by
    rw [Heap.get?_update_self f ho (by rw [hf] <;> rfl), hf]
  refine I.write (x := p) (e := p) (by rw [h]; trivial) (.inl rfl) (fun b u hb q => (Heap.get?_update_other _ _ (Ne.symm hb)).trans q) ⟨_, e⟩ ?_
  exact ⟨hz, its', n', r, e⟩
noncomputable def rSetL : V → V → V → Hp → (Hp → Prop) → Prop := fun o i v H Q => ∃ p xs k j, o = .ref p ∧ i = .int k ∧ H p = some (.lst xs) ∧ ixN xs.length k = some j ∧ Q (upd H p (.lst (xs.set j v)))
theorem set_list : PSet X rSetL := by
  intro pins s σ H o i v ov iv u Q I ro ri rv h
  obtain ⟨p, xs, k, j, rfl, rfl, hp, hj, q⟩ := h
  cases ro
  obtain ⟨t, rfl⟩ := ri
  obtain ⟨its, n, r, ho, hz⟩ := I.lst hp
  obtain ⟨h1, h2, h3, h4⟩ := ixN_seq hj
  have hl := r.length
  have hn := line63
  have I' : Inv X pins σ (upd H p (.lst (xs.set j v))) { s with heap := s.heap.update p (Obj.mapSeq (·.setIfInBounds j u)) } :=
    I.lstUpd hp ho (mapSeq_set its n j u) (r.set rv j) (by rw [List.length_set]; exact hz) s.toks
  by_cases h0 : 0 ≤ k
  · have hk : k.toNat = j := by
      rw [seqIndex_of h0 h4] at h1
      exact Option.some.inj h1
    exact PySem.W.ki_setAt ho h0 (by omega) (by rw [List.size_toArray, ← hl]; exact h4) (by rw [hk]; exact ⟨_, I', q⟩)
  · have hk : (k + (its.toArray.size : Int)).toNat = j := by
      rw [seqIndex_neg (by omega) h3] at h1
      rw [List.size_toArray, ← hl]
      exact Option.some.inj h1
    exact PySem.W.ki_setBack ho (by omega) (by rw [List.size_toArray, ← hl]; exact h3) (by omega) (by rw [hk]; exact ⟨_, I', q⟩)

/-! ### slices -/
theorem slice_bounds (lo hi : Option Int) (n : Nat) : (sliceBounds lo hi none n).1 = ((HT.sIx n 0 lo : Nat) : Int) ∧ (sliceBounds lo hi none n).2.1 = ((HT.sIx n n hi : Nat) : Int) ∧ (sliceBounds lo hi none n).2.2 = 1 := by
  refine ⟨?_, ?_, rfl⟩
  · cases lo with
    | none => simp [sliceBounds, HT.sIx]
    | some i =>
      simp only [sliceBounds, HT.sIx, Option.getD_none, show (1 : Int) > 0 by decide, if_true]
      by_cases h : i < 0
      · simp only [h, if_true] <;> omega
      · simp only [h, if_false] <;> omega
  · cases hi with
    | none => simp [sliceBounds, HT.sIx]
    | some i =>
      simp only [sliceBounds, HT.sIx, Option.getD_none, show (1 : Int) > 0 by decide, if_true]
      by_cases h : i < 0
      · simp only [h, if_true] <;> omega
      · simp only [h, if_false] <;> omega
theorem slicePick_cut (its : List Value) (lo hi : Option Int) : slicePick its.toArray lo hi none = ((its.drop (HT.sIx its.length 0 lo)).take (HT.sIx its.length its.length hi - HT.sIx its.length 0 lo)).toArray := by
  obtain ⟨h1, h2, h3⟩ := slice_bounds lo hi its.toArray.size
  unfold slicePick
  rw [h1, h2, h3]
  simp only [sliceRange_one, pick_run, List.size_toArray] <;> rfl
/-- xs[lo:hi] of a list: a new list -/
noncomputable def rSlL (K : PySem.W.Frag) : V → Option Int → Option Int → Hp → VK → Prop := fun x lo hi H Q => ∃ a xs, x = .ref a ∧ SqL K H a xs ∧ ∀ p, H p = none → Q (.ref p) (upd H p (.lst (cutV xs lo hi)))
theorem sl_list : SlR X (rSlL X.K) := by
  intro pins s σ H x v vl vu lo hi sl Q I rx hs pl pu h
  obtain ⟨a, xs, rfl, hx, q⟩ := h
  cases rx
  obtain ⟨its, r, ht, hz⟩ := I.list hx
  have hlen := r.length
  refine ⟨"list", _, slot_list_getitem.lookup, ht.isList.typeIs, ?_⟩
  refine wpAny_getItem_list_slice ht.isList hs pl pu .none (by simp) ?_ (by rw [List.size_toArray] <;> omega)
  rw [slicePick_cut, ← hlen]
  refine ⟨.ref s.heap.objs.size, _, I.laid (t' := s.toks) (o := .lst (cutV xs lo hi)) (fun b ob q => Heap.get?_push_of_some _ q) (Nat.le_refl _) ?_, rfl, q _ (I.hok.fresh (Nat.le_refl _))⟩
  exact ⟨Nat.le_trans (cutV_length xs lo hi) hz, _, 0, (r.drop (HT.sIx xs.length 0 lo)).take (HT.sIx xs.length xs.length hi - HT.sIx xs.length 0 lo), Heap.get?_push_size _ rfl⟩

/-! ### in, not in: flat items -/

/-! ### len, list(x), tuple(x) of any list or tuple that is read -/
theorem call_len_seq : CallR X (.builtin "len") (fun xs H Q => ∃ p ys, xs = [.ref p] ∧ (SqL X.K H p ys ∨ SqT X.K H p ys) ∧ Q (.int ys.length) H) := by
  intro pins s σ H xs us Q I r h
  obtain ⟨p, ys, rfl, hq, q⟩ := h
  obtain ⟨u, rfl, rx⟩ := vals1 r
  cases rx
  have hn := line63
  rcases hq with hq | hq
  · obtain ⟨its, r', pl, hz⟩ := I.list hq
    have hlen := r'.length
    exact Calls.call_len_list pl.isList (by simp only [List.size_toArray] <;> omega) ⟨.int ys.length, H, I.tok _, ⟨s.toks + 1, by rw [List.size_toArray, hlen]⟩, q⟩
  · obtain ⟨its, r', pl, hz⟩ := I.tuple hq
    have hlen := r'.length
    exact len_tuple pl (by simp only [List.size_toArray] <;> omega) ⟨.int ys.length, H, I.tok _, ⟨s.toks + 1, by rw [List.size_toArray, hlen]⟩, q⟩
theorem call_list_of : CallR X (.type "list") (fun xs H Q => ∃ p ys, xs = [.ref p] ∧ (SqL X.K H p ys ∨ SqT X.K H p ys) ∧ ∀ l, H l = none → Q (.ref l) (upd H l (.lst ys))) := by
  intro pins s σ H xs us Q I r h
  obtain ⟨p, ys, rfl, hq, q⟩ := h
  obtain ⟨u, rfl, rx⟩ := vals1 r
  cases rx
  have fin : ∀ (its : List Value), Vals ys its → ys.length ≤ sizeLine → ∀ (h' : Heap) (c' : Nat), (∀ b o', s.heap.get? b = some o' → h'.get? b = some o') →
      h'.get? s.heap.objs.size = some { cls := .type "list", dict := none, data := .seq its.toArray c', slots := #[] } → EP X pins σ Q (.ref s.heap.objs.size) { s with heap := h' } := fun its r' hz h' c' kp e =>
    ⟨.ref s.heap.objs.size, _, I.laid (t' := s.toks) kp (Nat.le_refl _) (show ObjOk X.prog X.w _ h' _ (.lst ys) from ⟨hz, its, c', r', e⟩), rfl, q _ (I.hok.fresh (Nat.le_refl _))⟩
  rcases hq with hq | hq
  · obtain ⟨its, r', pl, hz⟩ := I.list hq
    have hlen := r'.length
    obtain ⟨o, ho, hc, n, hd⟩ := pl.isList
    exact call_list_seq p (.inl rfl) ho hc hd (fun h' c' kp e => fin its r' hz h' c' kp e) (by simp only [List.size_toArray] <;> omega)
  · obtain ⟨its, r', pl, hz⟩ := I.tuple hq
    have hlen := r'.length
    obtain ⟨o, ho, hc, n, hd⟩ := pl
    exact call_list_seq p (.inr rfl) ho hc hd (fun h' c' kp e => fin its r' hz h' c' kp e) (by simp only [List.size_toArray] <;> omega)

/-! ### the call of a builtin's method: o.m(..) -/
/-- the value is of that builtin type -/
noncomputable def tyV (K : PySem.W.Frag) (T : String) (x : V) (H : Hp) : Prop := match x with
  | .str _ => T = "str"
  | .int _ => T = "int"
  | .ref p => (T = "list" ∧ ∃ xs, SqL K H p xs) ∨ (T = "tuple" ∧ ∃ o, K.lookup p = some o ∧ o.cls = .type "tuple" ∧ o.dict = none) ∨
      (T = "dict" ∧ ((∃ kvs, H p = some (.dK kvs)) ∨ ∃ kvs, H p = some (.dT kvs))) ∨ (T = "set" ∧ ∃ S n, H p = some (.set S n))
  | _ => False
theorem tyV_is {pins : List (Addr × Obj)} {σ : St} {H : Hp} {s : Shared} {T : String} {x : V} {v : Value} (I : Inv X pins σ H s) (r : RelV x v) (ty : tyV X.K T x H) :
    s.TypeIs v T ∧ ∀ a, v = .ref a → ∃ ob, s.heap.get? a = some ob ∧ ob.dict = none := by
  cases x with
  | str z =>
    obtain ⟨t, rfl⟩ := r
    cases (show T = "str" from ty)
    exact ⟨typeIs_str s z t, fun _ e => nomatch e⟩
  | int i =>
    obtain ⟨t, rfl⟩ := r
    cases (show T = "int" from ty)
    exact ⟨typeIs_int s i t, fun _ e => nomatch e⟩
  | ref p =>
    cases r
    rcases ty with ⟨rfl, xs, hq⟩ | ⟨rfl, o, hk, hc, hd⟩ | ⟨rfl, hk⟩ | ⟨rfl, S, n, hk⟩
    · obtain ⟨its, _, pl, _⟩ := I.list hq
      refine ⟨pl.isList.typeIs, fun a e => ?_⟩
      cases e
      obtain ⟨o, n, e, c, hd, _⟩ := pl
      exact ⟨o, e, hd⟩
    · refine ⟨⟨o, I.kIn p o hk, hc⟩, fun a e => ?_⟩
      cases e
      exact ⟨o, I.kIn _ o hk, hd⟩
    · have z : ∃ o, s.heap.get? p = some o ∧ o.ExactDict := by
        rcases hk with ⟨kvs, hk⟩ | ⟨kvs, hk⟩
        · obtain ⟨_, _, _, _, o, _, _, e, ex, _⟩ := I.hok p _ hk
          exact ⟨o, e, ex⟩
        · obtain ⟨_, _, _, _, o, _, _, e, ex, _⟩ := I.hok p _ hk
          exact ⟨o, e, ex⟩
      obtain ⟨o, e, ex⟩ := z
      refine ⟨⟨o, e, ex.1⟩, fun a e2 => ?_⟩
      cases e2
      exact ⟨o, e, ex.2.1⟩
    · obtain ⟨o, _, _, _, e, ex, _⟩ := I.hok p _ hk
      refine ⟨⟨o, e, ex.1⟩, fun a e2 => ?_⟩
      cases e2
      exact ⟨o, e, ex.2.1⟩
  | _ => exact False.elim ty
noncomputable def tBM0 (K : PySem.W.Frag) (T : String) (r : V → List V → Hp → VK → Prop) (to : TE) : TE := fun σ H Q => to σ H fun x H1 => tyV K T x H1 ∧ r x [] H1 Q
noncomputable def tBM (K : PySem.W.Frag) (T : String) (r : V → List V → Hp → VK → Prop) (to : TE) (t : TA) : TE := fun σ H Q => to σ H fun x H1 => tyV K T x H1 ∧ t σ H1 fun xs H2 => r x xs H2 Q
variable {o e : Expr} {es : List Expr} {to : TE} {t : TA} {name : Str} {apos cpos : Pos} {T id : String} {r : V → List V → Hp → VK → Prop}
theorem pe_bm0 (pa : PlainAttrs T) (slot : Slot T name id) (hty : typeOf (.builtin id) = pure (.type "method_descriptor")) (hm : MtR X id r) (ho : PE X o to)
    (hbase : attributeBase o name X.env (eval o X.env) = eval o X.env := by rfl) (hline : (apos.endLine == cpos.line) = true := by rfl) : PE X (.Call (.Attribute o name apos) [] [] cpos) (tBM0 X.K T r to) := by
  intro pins s σ H Q I h
  refine wpAny_Call_method0_late hbase hline (thn (ho pins s σ H _ I h) fun v s1 ⟨x, H1, I1, r1, ty, q1⟩ => ?_)
  obtain ⟨h1, h2⟩ := tyV_is I1 r1 ty
  exact ⟨T, id, pa, slot, hty, h1, h2, Calls.callWith_builtin rfl (PySem.evalArgs_none (hm pins s1 σ H1 x [] v [] Q I1 r1 .nil q1))⟩
theorem pe_bm (pa : PlainAttrs T) (slot : Slot T name id) (hty : typeOf (.builtin id) = pure (.type "method_descriptor")) (hm : MtR X id r) (ho : PE X o to) (ha : PA X (e :: es) t)
    (hbase : attributeBase o name X.env (eval o X.env) = eval o X.env := by rfl)
    (hfew : ((backTo cpos (starEach (e :: es) X.env)).all (fun x => !x.1) && (backToKw cpos (keywordEach [] X.env)).all (fun x => x.1.isSome)
      && decide ((e :: es).length + ([] : List Keyword).length + (if ([] : List Keyword).isEmpty then 0 else 1) < 30)) = true := by rfl)
    (hline : (apos.endLine == cpos.line) = true := by rfl) (hs : starEach (e :: es) X.env = (false, eval e X.env) :: starEach es X.env := by rfl) (hplain : (backTo cpos (starEach es X.env)).any (·.1) = false := by rfl) :
    PE X (.Call (.Attribute o name apos) (e :: es) [] cpos) (tBM X.K T r to t) := by
  intro pins s σ H Q I h
  refine wpAny_Call_method_late hbase hfew hline rfl (thn (ho pins s σ H _ I h) fun v s1 ⟨x, H1, I1, r1, ty, q1⟩ => ?_)
  obtain ⟨h1, h2⟩ := tyV_is I1 r1 ty
  refine ⟨T, id, pa, slot, hty, h1, h2, ?_⟩
  have hA := ha cpos pins s1 σ H1 _ I1 q1
  rw [hs] at hA ⊢
  refine Calls.callWith_builtin (by show (false || (backTo cpos (starEach es X.env)).any (·.1)) = false; rw [hplain] <;> rfl) (Calls.evalArgs_plain ?_)
  exact thn hA fun us s2 ⟨vs, H2, I2, r2, q2⟩ => hm pins s2 σ H2 x vs v us Q I2 r1 r2 q2
/- xs.append(e), list.index on a module's tuple .. are MtR facts of 06m -/
end
end L2

namespace L2
open PySem PySem.Spec PyProof.Rows

noncomputable def MtM (X : Cx) (id : String) (r : V → List V → Hp → VK → Prop) : Prop :=
  ∀ (pins : List (Addr × Obj)) (s : Shared) (σ : St) (H : Hp) (x : V) (xs : List V) (v : Value) (us : List Value) (Q : VK), Inv X pins σ H s → RelV x v → Vals xs us → r x xs H Q →
    wpAny (model X.prog X.w) X.A (call (.builtin id) (v :: us)) (EP X pins σ Q) X.xe s

/-! ### lists of values -/
theorem Vals.one : ∀ {x : V} {us : List Value}, Vals [x] us → ∃ u, us = [u] ∧ RelV x u
  | _, _, .cons r .nil => ⟨_, rfl, r⟩
theorem Vals.two : ∀ {x y : V} {us : List Value}, Vals [x, y] us → ∃ u v, us = [u, v] ∧ RelV x u ∧ RelV y v
  | _, _, _, .cons r (.cons q .nil) => ⟨_, _, rfl, r, q⟩
theorem Vals.zero : ∀ {us : List Value}, Vals [] us → us = []
  | _, .nil => rfl
theorem Vals.dropLast {xs : List V} {us : List Value} (h : Vals xs us) : Vals xs.dropLast us.dropLast := by
  induction h with
  | nil => exact .nil
  | cons r t ih =>
    cases t with
    | nil => exact .nil
    | cons q t' => exact .cons r ih
theorem erase_last {α : Type} (l : List α) : l.eraseIdx (l.length - 1) = l.dropLast := by
  induction l with
  | nil => rfl
  | cons a r ih =>
    cases r with
    | nil => rfl
    | cons b r =>
      have e : (a :: b :: r).length - 1 = ((b :: r).length - 1) + 1 := by
        have h1 : (a :: b :: r).length = r.length + 2 := rfl
        have h2 : (b :: r).length = r.length + 1 := rfl
        omega
      rw [e, List.eraseIdx_cons_succ, ih]
      all_goals rfl

section
variable {X : Cx} {pins : List (Addr × Obj)} {σ : St} {H : Hp} {s : Shared} {l b : Addr} {xs ys zs : List V}

/-! ### the two steps: a tracked list is rewritten, a new list is laid -/
theorem Inv.lset {its its' : List Value} {n : Nat} {f : Array Value → Array Value} {t' : Nat} (I : Inv X pins σ H s) (hH : H l = some (.lst xs))
    (e : s.heap.get? l = some { cls := .type "list", data := .seq its.toArray n }) (hf : f its.toArray = its'.toArray) (hv : Vals ys its') (hz : ys.length ≤ sizeLine) :
    Inv X pins σ (upd H l (.lst ys)) { s with heap := s.heap.update l (Obj.mapSeq f), toks := t' } := by
  have q := PySem.IsL.update e f
  rw [hf] at q
  refine I.write (x := l) (e := l) (by rw [hH]; exact trivial) (.inl rfl) (fun b' u hb hu => (Heap.get?_update_other s.heap (Obj.mapSeq f) (Ne.symm hb)).trans hu) ⟨_, q⟩ ?_
  exact ⟨hz, its', _, hv, q⟩
theorem Inv.lnew {its : List Value} {t' : Nat} (I : Inv X pins σ H s) (hv : Vals ys its) (hz : ys.length ≤ sizeLine) :
    Inv X pins σ (upd H s.heap.objs.size (.lst ys)) { s with heap := s.heap.push { cls := .type "list", data := .seq its.toArray }, toks := t' } :=
  I.laid (fun _ _ q => Heap.get?_push_of_some _ q) (Nat.le_refl _) ⟨hz, its, 0, hv, Heap.get?_push_size _ rfl⟩
theorem Inv.fresh (I : Inv X pins σ H s) : H s.heap.objs.size = none := I.hok.fresh (Nat.le_refl _)
theorem Inv.lstM (I : Inv X pins σ H s) (hH : H l = some (.lst xs)) : xs.length ≤ sizeLine ∧ ∃ (its : List Value) (n : Nat), Vals xs its ∧ xs.length = its.length ∧ s.heap.get? l = some { cls := .type "list", data := .seq its.toArray n } := by
  obtain ⟨z, its, n, r, e⟩ := I.hok l _ hH
  exact ⟨z, its, n, r, r.length, e⟩

theorem notLongL {n : Nat} (h : n ≤ sizeLine) : Builtin.List.listTooLong n = false := by
  unfold Builtin.List.listTooLong
  exact decide_eq_false (by omega)
end

section
variable {X : Cx}

/-! ### methods -/
noncomputable def rAppend : V → List V → Hp → VK → Prop := fun x vs H Q => ∃ l xs y, x = .ref l ∧ vs = [y] ∧ H l = some (.lst xs) ∧ xs.length < sizeLine ∧ Q .non (upd H l (.lst (xs ++ [y])))
theorem mt_append : MtM X "list.append" rAppend := by
  intro pins s σ H x vs v us Q I rx rv h
  obtain ⟨l, xs, y, rfl, rfl, hH, hz, q⟩ := h
  cases rx
  obtain ⟨u, rfl, ru⟩ := rv.one
  obtain ⟨z, its, n, r, hl, e⟩ := I.lstM hH
  refine call_meets F.slot_list_append ⟨_, e, rfl⟩ F.entry_list_append (F.args_list_append_2 _ _) (PySem.list_append l its.toArray n u (by rw [List.size_toArray]; omega)) ⟨e, ?_⟩
  refine ⟨.non, _, I.lset (its' := its ++ [u]) hH e (by simp) (r.append (.cons ru .nil)) ?_, rfl, q⟩
  rw [List.length_append, List.length_singleton]
  omega

noncomputable def rExtend : V → List V → Hp → VK → Prop := fun x vs H Q => ∃ l b xs zs, x = .ref l ∧ vs = [.ref b] ∧ H l = some (.lst xs) ∧ H b = some (.lst zs) ∧ xs.length + zs.length ≤ sizeLine ∧ Q .non (upd H l (.lst (xs ++ zs)))
theorem mt_extend : MtM X "list.extend" rExtend := by
  intro pins s σ H x vs v us Q I rx rv h
  obtain ⟨l, b, xs, zs, rfl, rfl, hH, hB, hz, q⟩ := h
  cases rx
  obtain ⟨u, rfl, ru⟩ := rv.one
  cases ru
  obtain ⟨z, its, n, r, hl, e⟩ := I.lstM hH
  obtain ⟨z2, its2, n2, r2, hl2, e2⟩ := I.lstM hB
  have hsz : its.toArray.size + its2.toArray.size ≤ sizeLine := by rw [List.size_toArray, List.size_toArray]; omega
  have hlong : ¬ (!its.toArray.isEmpty && Builtin.List.listTooLong (its.toArray.size + its2.toArray.size)) = true := by
    rw [notLongL hsz, Bool.and_false]
    exact Bool.false_ne_true
  refine call_meets F.slot_list_extend ⟨_, e, rfl⟩ F.entry_list_extend (F.args_list_extend_2 _ _)
    (AutoSeq1.list_extend_list_list_0 l its.toArray n b its2.toArray n2 hlong (by rw [List.size_toArray]; omega) (by omega)) ⟨e, e2, ?_⟩
  refine ⟨.non, _, I.lset (its' := its ++ its2) hH e (by simp) (r.append r2) ?_, rfl, q⟩
  rw [List.length_append]
  omega

noncomputable def rPop : V → List V → Hp → VK → Prop := fun x vs H Q => ∃ l xs y, x = .ref l ∧ vs = [] ∧ H l = some (.lst xs) ∧ xs[xs.length - 1]? = some y ∧ Q y (upd H l (.lst xs.dropLast))
theorem mt_pop : MtM X "list.pop" rPop := by
  intro pins s σ H x vs v us Q I rx rv h
  obtain ⟨l, xs, y, rfl, rfl, hH, hy, q⟩ := h
  cases rx
  have hus := rv.zero
  subst hus
  obtain ⟨z, its, n, r, hl, e⟩ := I.lstM hH
  obtain ⟨u, hu, ru⟩ := r.get hy
  have hy' : its.toArray[its.toArray.size - 1]? = some u := by
    show its.toArray[its.length - 1]? = some u
    rw [← Array.getElem?_toList, ← hl]
    exact hu
  refine call_meets F.slot_list_pop ⟨_, e, rfl⟩ F.entry_list_pop (F.args_list_pop_1 _) (MeetsSeq.list_pop_last l its.toArray n u hy' (by rw [List.size_toArray]; omega)) ⟨e, ?_⟩
  refine ⟨y, _, I.lset (its' := its.dropLast) hH e ?_ r.dropLast ?_, ru, q⟩
  · show its.toArray.eraseIdxIfInBounds (its.toArray.size - 1) = its.dropLast.toArray
    rw [List.size_toArray, List.eraseIdxIfInBounds_toArray, erase_last]
  · rw [List.length_dropLast]
    omega



noncomputable def rClear : V → List V → Hp → VK → Prop := fun x vs H Q => ∃ l xs, x = .ref l ∧ vs = [] ∧ H l = some (.lst xs) ∧ Q .non (upd H l (.lst []))
theorem mt_clear : MtM X "list.clear" rClear := by
  intro pins s σ H x vs v us Q I rx rv h
  obtain ⟨l, xs, rfl, rfl, hH, q⟩ := h
  cases rx
  have hus := rv.zero
  subst hus
  obtain ⟨z, its, n, r, hl, e⟩ := I.lstM hH
  refine call_meets F.slot_list_clear ⟨_, e, rfl⟩ F.entry_list_clear (F.args_list_clear_1 _) (AutoSeq1.list_clear_list_0 l its.toArray n (by rw [List.size_toArray]; omega)) ⟨e, ?_⟩
  exact ⟨.non, _, I.lset (its' := []) (ys := []) hH e rfl .nil (Nat.zero_le _), rfl, q⟩

/-! ### list + list, list += list, list * int -/
noncomputable def rCat : R2 := fun x y H Q => ∃ l b xs zs, x = .ref l ∧ y = .ref b ∧ H l = some (.lst xs) ∧ H b = some (.lst zs) ∧ xs.length + zs.length ≤ sizeLine ∧ ∀ p, H p = none → Q (.ref p) (upd H p (.lst (xs ++ zs)))
theorem op_cat : OpR X (binaryOp .Add) rCat := by
  intro pins s σ H x y v u Q I rx ry h
  obtain ⟨l, b, xs, zs, rfl, rfl, hH, hB, hz, q⟩ := h
  cases rx
  cases ry
  obtain ⟨z, its, n, r, hl, e⟩ := I.lstM hH
  obtain ⟨z2, its2, n2, r2, hl2, e2⟩ := I.lstM hB
  refine PySem.P.add_list e e2 ?_ (by rw [List.size_toArray, List.size_toArray]; omega)
  have ea : its.toArray ++ its2.toArray = (its ++ its2).toArray := by simp
  rw [ea]
  exact ⟨.ref _, _, I.lnew (t' := s.toks) (r.append r2) (by rw [List.length_append]; omega), rfl, q _ I.fresh⟩

/-! ### del xs[i] -/
end

/-! ### xs[a:b] = ys -/
section
variable {prog : Program} {w : World} {A : Around} {E : Value → Shared → Prop} {s : Shared}
set_option maxRecDepth 100000 in
end

section
variable {X : Cx}
end
end L2

namespace Att
open PySem PySem.W PySem.Calls PyProof.Rows

/-! ### the script -/
theorem ints_of_wellAll {P : Params} {h : Heap} : ∀ (ns : List Int) (vs : List Value), WellAll P h vs (ns.map WData.int) → IntsAre vs ns := by
  intro ns
  induction ns with
  | nil =>
    intro vs w
    rw [List.map_nil] at w
    cases w
    exact .nil
  | cons n ns ih =>
    intro vs w
    rw [List.map_cons] at w
    cases w with
    | cons a b =>
      cases a
      exact .cons _ _ (ih _ b)

theorem script_of {l : OpenLaw} {n : Nat} (hn : l.most = some n) {P : Params} {h : Heap} {args : List WData} {vals : List Value}
    (hpre : l.row.toRowW.claim.pre args = true) (hwl : WellAll P h vals args) :
    ∃ a vs ns, vals = [Value.ref a] ∧ args = [WData.list (ns.map WData.int)] ∧ h.get? a = some { cls := .type "list", data := .seq vs.toArray } ∧ IntsAre vs ns ∧ ns.length ≤ n := by
  have hsh : WShape.hasAll [] args [.list .int] = true := (pre_splitW hpre).1
  have hc : l.pre.holds [] { args := args } = true := (pre_splitW hpre).2
  obtain ⟨d, r, rfl, h1, h2⟩ := hasAllW_cons hsh
  obtain rfl := hasAllW_nil h2
  obtain ⟨xs, rfl, h3⟩ := hasW_list h1
  obtain ⟨ns, rfl⟩ := items_int h3
  have hlen : ns.length ≤ n := by
    unfold OpenLaw.pre at hc
    have h4 : (WTm.not (.lt (.lit (.int (n : Int))) (.len (.arg 0)))).holds [] { args := [.list (ns.map .int)] } = true := by
      have h4 := (holds_andW hc).1
      rw [hn] at h4
      exact h4
    have h5 := condW_of h4 (w_not (w_lt w_lit (w_len_list (w_arg rfl))))
    rw [List.length_map] at h5
    refine Nat.le_of_not_lt fun q => ?_
    have q' : (n : Int) < ((ns.length : Nat) : Int) := by omega
    first
      | (rw [decide_eq_true q'] at h5; exact absurd h5 (by decide))
      | (simp at h5; omega)
  cases hwl with
  | cons w1 w2 =>
    cases w2
    cases w1 with
    | list ho hall => exact ⟨_, _, ns, rfl, rfl, ho, ints_of_wellAll ns _ hall, hlen⟩

theorem post_true (l : OpenLaw) (args : List WData) : l.row.toRowW.claim.post args (.bool true) args = true :=
  postW_of (r := l.row.toRowW) (X := (true == true))
    (show WShape.has [] (.bool true) .bool = true by first | rfl | decide | simp [WShape.has, WShape.arms, WShape.armsAll])
    (show (WTm.eq .res (.lit (.bool true))).value [] { args := args, res := some (.bool true), after := args } = some (.bool (true == true)) from w_eq_bool (w_res rfl) w_lit) rfl

/-! ### the attachment: holds_open's last premise (the goal 'hc' behind k_head) from a wpAny of the law's body -/

/-- the same from a codeAny of the CALL (for a layer whose function contracts speak of calls) -/
theorem attach_call {l : OpenLaw} {n : Nat} {q : Program} {loose : List Str} {XP : (Str → Option Value) → Heap → Prop} {YP : World → Heap → Prop} {d : DefRec}
    (hn : l.most = some n) (hdf : d.params.defaults = [])
    (call : ∀ (w : World) (s₀ s₁ : Shared) (mg mb : Str → Option Value) (fa : Addr) (o : Obj) (pm cd doc : Value) (a : Addr) (vs : List Value) (ns : List Int),
      Ground q loose [] XP w s₀ mg mb s₁.heap → YP w s₁.heap →
      s₁.heap.get? fa = some o → o.data = .func (docDef d.name d.params d.body d.scope pm cd doc) → s₁.heap.CodeRec cd d.name → mg d.name = some (.ref fa) →
      s₁.heap.get? a = some { cls := .type "list", data := .seq vs.toArray } → IntsAre vs ns → ns.length ≤ n → s₁.gens = #[] →
      codeAny (model l.prog w) callerA (.call (.ref fa) ⟨[.ref a], []⟩) (fun r s' => r = .ok (.ret (.bool true)) ∧ OldK s₁.heap s'.heap ∧ s'.os = s₁.os ∧ AllBare s'.gens) s₁) :
    WalkO q loose XP YP l.row.toRowW d [] (fun f vs => PySem.call f vs) := by
  intro w s₀ s₁ mg mb G Y fa o pm cd doc dV kV ho hd hcd hD hmg hg args vals as hpre hlay hrd hwl hlo
  obtain rfl : dV = .none := Dflts.none hD hdf
  obtain rfl : kV = .none := Dflts.noKw hD
  obtain ⟨a, vs, ns, rfl, rfl, hobj, hints, hlen⟩ := script_of hn hpre hwl
  refine enter_call (codeAny_mono (call w s₀ s₁ mg mb fa o pm cd doc a vs ns G Y ho (fd_plain hd) hcd hmg hobj hints hlen hg) fun r s' hq => ?_)
  obtain ⟨rfl, h2, h3, h4⟩ := hq
  exact ⟨.inl ⟨.bool true, .bool true, [], rfl, fun _ => rfl, .bool true, post_true l _, fun _ => ⟨List.Pairwise.nil, fun _ hm => (nomatch hm)⟩⟩, h2, h3, h4⟩


/-! ### rules over ANY heap (no ledger) from facts about the written part K: the library's own take a ledger (News) for what they write -/
section
variable {prog : Program} {w : World} {A : Around} {E : Value → Shared → Prop} {s : Shared} {K : Frag}





/-! the whole heap as the ledger: makes every rule that writes through a ledger a rule over any heap -/

end
end Att

namespace L2
open PySem PySem.Spec PyProof.Rows

theorem vals_ints : ∀ {vs : List Value} {ns : List Int}, IntsAre vs ns → Vals (ns.map V.int) vs
  | _, _, .nil => .nil
  | _, _, .cons n t h => .cons ⟨t, rfl⟩ (vals_ints h)


end L2

namespace L2
open PySem PySem.Spec PyProof.Rows

noncomputable abbrev KOf {K : PySem.W.Frag} {h : Heap} (_ : K.In h) : PySem.W.Frag := K

end L2

/- THE LAST THEOREM (shape; LID, My.* are yours):
   My.Adr: a structure of the addresses that your layer names (classes, functions); My.Txt K t: a structure (Prop) of the equations over K;
   My.txt_mk : {K} {implicit addresses ..} (e1 : nsIn K mainGlobals "law" = some (some (.ref f))) (e2 : K.lookup f = some ⟨oc, od, .func (fnOf "law" "law" params body scope dV kV doc pm an cdv ct), sl⟩) (e3 : codeIn K cdv "law" = true) .. : ∃ t, My.Txt K t

set_option maxRecDepth 100000 in
set_option maxHeartbeats 0 in
theorem PySem.Challenge.cw_LID_holds : PySem.Challenge.rw_LID.Holds := by
  w_on; o_law; k_head; (case hw => w_witness2)
  k_fill
  refine L2.walk_of (l := PySem.Challenge.rw_LID) (n := 63) (k := 40) (x := "script") (CX := fun w => ..) (sp := fun _ => My.sp_law) rfl (by decide) rfl ⟨rfl, by decide, by decide⟩ (fun w h Y => PySem.W.kIn_of Y) ?F ?S ?C
  case F =>
    intro w mg fa h KX G hmg
    have T : ∃ t, My.Txt (L2.KOf KX) t := by
      dsimp only [L2.KOf]                          -- K must stand as «<heap const> w.params» for k_is
      refine' My.txt_mk ?e1 ?e2 ?e3 ..
      (case e1 => PySem.W.k_is)                    -- in the order: a name -> its address -> its object -> its parts
      (case e2 => PySem.W.k_is)
      ..
    obtain ⟨t, T⟩ := T
    have e0 := hmg.symm.trans (PySem.W.mg_of KX G T.law)
    cases e0                                       -- fa is the law's own address
    exact ⟨_, fun s u => .of_eq rfl, fun base kb nb => My.law_fn T kb nb⟩     -- if «.of_eq rfl» comes too early: refine' ⟨_, ?b, fun base kb nb => My.law_fn T kb nb⟩; exact fun s u => .of_eq rfl
  case S => exact fun w H a ns hl hO hS => ..
  case C => exact ..
(the tactic k_is has no namespace: write k_is) -/

/-! SHORT WORDS over the layer: a def of the text, its body, what a loop and a test want. -/
namespace L2
open PySem PySem.Spec PyProof.Rows

/-! ### the text by places -/
noncomputable def defArgs (s : Stmt) : Arguments := match s with
  | .FunctionDef _ a _ _ _ _ _ _ _ _ => a
  | _ => { posonlyargs := [], args := [], vararg := none, kwonlyargs := [], kw_defaults := [], kwarg := none, defaults := [] }
noncomputable def defBody (s : Stmt) : List Stmt := match s with
  | .FunctionDef _ _ b _ _ _ _ _ _ _ => b
  | _ => []
noncomputable def defScope (s : Stmt) : Scope := match s with
  | .FunctionDef _ _ _ _ _ _ sc _ _ _ => sc
  | _ => { kind := .function, names := [], isGenerator := false, isCoroutine := false }

/-! ### no exception leaves a def -/
noncomputable abbrev E0 : XK := fun _ _ _ => False

/-! ### a def (or method) of the text as it stands behind the top -/
structure Fun (K : PySem.W.Frag) (x qual : Str) (st : Stmt) (f : Addr) (fd : FuncData) : Prop where
  ex : ∃ (oc : Value) (od : Option Addr) (kV doc pm : Value) (an : Option Addr) (cdv ct : Value) (osl : Array (Option Value)),
    fd = PySem.W.fnOf x qual (defArgs st) (defBody st) (defScope st) .none kV doc pm an cdv ct ∧ K.lookup f = some ⟨oc, od, .func fd, osl⟩ ∧ PySem.W.codeIn K cdv qual = true
  kp : PySem.W.keepIn K (.ref f) = true
section
variable {P : Program} {w : World} {K : PySem.W.Frag} {mg : Str → Option Value} {base : Heap}
/-- how its arguments bind (no defaults): h is «fun _ _ _ _ _ _ us hl => match us, hl with | [_, _], _ => rfl», one _ a parameter -/
theorem Fun.binds {x qual : Str} {st : Stmt} {f : Addr} {fd : FuncData} {ps : List Str} (F : Fun K x qual st f fd)
    (h : ∀ (kV doc pm : Value) (an : Option Addr) (cdv ct : Value) (us : List Value), us.length = ps.length → bindArgs (PySem.W.fnOf x qual (defArgs st) (defBody st) (defScope st) .none kV doc pm an cdv ct) ⟨us, []⟩ = pure (ps.zip us)) : Binds K fd ps [] := by
  obtain ⟨oc, od, kV, doc, pm, an, cdv, ct, osl, rfl, lk, hcd⟩ := F.ex
  exact .all (h kV doc pm an cdv ct)
theorem fun_mk {x qual : Str} {st : Stmt} {f : Addr} {oc : Value} {od an : Option Addr} {osl : Array (Option Value)} {kV doc pm cdv ct : Value} (l : K.lookup f = some ⟨oc, od, .func (PySem.W.fnOf x qual (defArgs st) (defBody st) (defScope st) .none kV doc pm an cdv ct), osl⟩)
    (c : PySem.W.codeIn K cdv qual = true) (k : PySem.W.keepIn K (.ref f) = true) : Fun K x qual st f (PySem.W.fnOf x qual (defArgs st) (defBody st) (defScope st) .none kV doc pm an cdv ct) := ⟨⟨oc, od, kV, doc, pm, an, cdv, ct, osl, rfl, l, c⟩, k⟩
end

/-! ### expressions in short: the name that stands in the i-th slot -/
section
variable {X : Cx}
theorem pv (i : Nat) {x : Str} {pos : Pos} (hN : X.N[i]? = some x := by rfl) (hv : Vis X.env.scope x := by first | exact Or.inl rfl | exact Or.inr (Or.inl rfl) | exact Or.inr (Or.inr rfl)) (hd : (x == ("__debug__" : Str)) = false := by decide)
    (hcd : (x == ("__classdict__" : Str)) = false := by decide) : PE X (.Name x pos) (tVar i) := pe_var hN hv hd hcd
end

/-! ### tests -/
theorem iteF {A B : Prop} (h : B) : if false = true then A else B := by
  rw [if_neg Bool.false_ne_true]
  exact h
theorem iteT {A B : Prop} (h : A) : if true = true then A else B := by
  rw [if_pos rfl]
  exact h
theorem ite2 {c A B : Prop} [Decidable c] (h1 : c → A) (h2 : ¬ c → B) : if c then A else B := by
  by_cases h : c
  · rw [if_pos h]
    exact h1 h
  · rw [if_neg h]
    exact h2 h

/-! ### heaps -/
/-- all that was tracked is as it was -/
noncomputable def Same (H H' : Hp) : Prop := ∀ b o, H b = some o → H' b = some o
theorem Same.refl (H : Hp) : Same H H := fun _ _ h => h
theorem Same.trans {H H1 H2 : Hp} (a : Same H H1) (b : Same H1 H2) : Same H H2 := fun c o h => b c o (a c o h)
theorem Same.free {H H' : Hp} (e : Same H H') {l : Addr} (h : H' l = Option.none) : H l = Option.none := by
  cases q : H l with
  | none => rfl
  | some o =>
    rw [e l o q] at h
    cases h
theorem Same.seq {K : PySem.W.Frag} {H H' : Hp} {a : Addr} {xs : List V} (e : Same H H') (h : SqL K H a xs) : SqL K H' a xs := by
  rcases h with (h | ⟨o, h⟩) | h
  · exact .inl (.inl (e _ _ h))
  · exact .inl (.inr ⟨o, e _ _ h⟩)
  · exact .inr h

/-! ### a dict's pairs: keys that differ -/
section
variable {κ : Type} [DecidableEq κ]
end
end L2

/-! EXCEPTIONS over the hand layer: own error classes raised in a def, handed on through callers, caught by a try. -/
namespace L2
open PySem PySem.Spec PyProof.Rows

/-- the exception at e is on its way: T its newest entry, which marks no frame -/
noncomputable def Fly (h : Heap) (e T : Addr) (cls : Value) (dct : Option Addr) : Prop :=
  ∃ oe vs oT ts, h.get? e = some oe ∧ oe.cls = cls ∧ oe.dict = dct ∧ oe.data = .fields vs ∧ vs[1]? = some (.ref T) ∧ T ≠ e ∧ h.get? T = some oT ∧ oT.data = .fields ts ∧ ts[3]? = some .none
/-- .. marked by fl -/
noncomputable def FlyAt (h : Heap) (e T : Addr) (cls : Value) (dct : Option Addr) (fl : Value) : Prop :=
  ∃ oe vs oT ts, h.get? e = some oe ∧ oe.cls = cls ∧ oe.dict = dct ∧ oe.data = .fields vs ∧ vs[1]? = some (.ref T) ∧ T ≠ e ∧ h.get? T = some oT ∧ oT.data = .fields ts ∧ ts[3]? = some fl

/-- what an entry changes: e itself, the frames' slots, one new record at T -/
structure Noted (fs : List Addr) (e T : Addr) (h h' : Heap) : Prop where
  keep : ∀ b o, b ≠ e → b ∉ fs → h.get? b = some o → h'.get? b = some o
  slot : ∀ b o, b ≠ e → h.get? b = some o → ∃ sl, h'.get? b = some { o with slots := sl }
  new : h.objs.size ≤ T

section
variable {M : Model} {A : Around} {E : Value → Shared → Prop} {s : Shared}

theorem entry_x {base : Heap} {env : Env} {outer : List Env} {L e : Addr} {oe : Obj} {vs : Array Value} {head : Value} {hadNext : Bool} {Q : Unit → Shared → Prop}
    (hfr : A.frames = some (env :: outer)) (hl : s.heap.FunFrames base (env :: outer)) (hf : env.frame = some L) (he : s.heap.get? e = some oe) (hd : oe.data = .fields vs) (hsz : 1 < vs.size)
    (h : ∀ h' T, Noted (frs (env :: outer)) e T s.heap h' → FlyAt h' e T oe.cls oe.dict (rawInt L) → Q () { s with heap := h' }) :
    wpAny M A (do
      let a ← frameOf env
      let pl ← entryPlaceOf L hadNext
      let b ← EntryCells.newEntry head a .none (rawInt L) .none pl
      setField (.ref e) 1 b) Q E s := by
  have nf : e ∉ (env :: outer).filterMap (·.frame) := fun hm => by
    obtain ⟨_, o, ho, hnf⟩ := hl.mem hm
    rw [he] at ho
    cases ho
    exact hnf vs hd
  refine wpAny_bind (wpAny_frameOf_fun hfr hl hf fun h1 so => wpAny_bind (wpAny_entryPlaceOf fun pl hpl => ?_))
  unfold EntryCells.newEntry newFields
  refine wpAny_bind (wpAny_newObj_type ?_ (hpl.sizeOk5 _ _ _ _ _))
  have e1 : h1.get? e = some oe := (so.2.1 e nf).trans he
  generalize hn : ([head, Value.ref L, Value.none, rawInt L, Value.none] ++ (if pl.isEmpty = true then List.replicate 6 Value.none else pl)) = cells
  have c3 : cells.toArray[3]? = some (rawInt L) := by subst hn; simp
  have e2 := Heap.get?_push_of_some (h := h1) { cls := .type "traceback", dict := none, data := .fields cells.toArray } e1
  refine wpAny_setField e2 hd hsz ?_
  have ne : h1.objs.size ≠ e := Nat.ne_of_gt (Heap.lt_size e1)
  have d3 := Obj.data_mapFields hd (·.setIfInBounds 1 (Value.ref h1.objs.size))
  refine h _ h1.objs.size ⟨fun b o hbe hbf hb => ?_, fun b o hbe hb => ?_, Nat.le_of_eq so.1.symm⟩ ?_
  · rw [Heap.get?_update_other _ _ (Ne.symm hbe)]
    exact Heap.get?_push_of_some _ ((so.2.1 b hbf).trans hb)
  · obtain ⟨sl, hs⟩ := so.2.2 b o hb
    refine ⟨sl, ?_⟩
    rw [Heap.get?_update_other _ _ (Ne.symm hbe)]
    exact Heap.get?_push_of_some _ hs
  · refine ⟨_, _, { cls := .type "traceback", dict := none, data := .fields cells.toArray }, cells.toArray, Heap.get?_update_self _ e2 (Obj.isFreed_of_fields d3), Obj.cls_mapFields _ _, ?_, d3, by simp [hsz], ne, ?_, rfl, c3⟩
    · obtain ⟨c, d, dt, sl⟩ := oe
      cases dt <;> rfl
    · rw [Heap.get?_update_other _ _ (Ne.symm ne)]
      exact Heap.get?_push_size h1 rfl

/-- the newest entry's mark is taken back -/
theorem flight_x {e T : Addr} {cls : Value} {dct : Option Addr} {fl : Value} {Q : Unit → Shared → Prop} (ht : FlyAt s.heap e T cls dct fl)
    (h : ∀ h', (∀ b o, b ≠ T → s.heap.get? b = some o → h'.get? b = some o) → Fly h' e T cls dct → Q () { s with heap := h' }) : wpAny M A (setFlight (.ref e) none) Q E s := by
  obtain ⟨oe, vs, oT, ts, he, hc, hdx, hd, h1, ne, hT, hdT, h3⟩ := ht
  have hsz : 3 < ts.size := (Array.getElem?_eq_some_iff.mp h3).1
  refine wpAny_setFlight_none he hd h1 hT hdT hsz (h _ (fun b o hb q => ?_) ?_)
  · rw [Heap.get?_update_other _ _ (Ne.symm hb)]
    exact q
  · refine ⟨oe, vs, _, _, ?_, hc, hdx, hd, h1, ne, Heap.get?_update_self _ hT (Obj.isFreed_of_fields (Obj.data_mapFields hdT _)), Obj.data_mapFields hdT _, by simp [hsz]⟩
    rw [Heap.get?_update_other _ _ ne]
    exact he

/-- .. one that comes from a callee: its last entry at T0 turns too -/
theorem note_next {base : Heap} {env : Env} {outer : List Env} {L e T0 : Addr} {cls : Value} {dct : Option Addr} {Q : Unit → Shared → Prop}
    (hfr : A.frames = some (env :: outer)) (hl : s.heap.FunFrames base (env :: outer)) (hf : env.frame = some L) (ht : Fly s.heap e T0 cls dct)
    (h : ∀ h' T, (∀ b o, b ≠ e → b ≠ T0 → b ∉ frs (env :: outer) → s.heap.get? b = some o → h'.get? b = some o) → (∀ b o, b ≠ e → b ≠ T0 → s.heap.get? b = some o → ∃ sl, h'.get? b = some { o with slots := sl }) → s.heap.objs.size ≤ T →
      FlyAt h' e T cls dct (rawInt L) → (∀ b o, s.heap.get? b = some o → ∃ o', h'.get? b = some o') → Q () { s with heap := h' }) : wpAny M A (noteFrame (.ref e) env) Q E s := by
  obtain ⟨oe, vs, oT, ts, he, rfl, rfl, hd, h1, ne, hT, hdT, h3⟩ := ht
  unfold noteFrame
  simp only [hf]
  refine wpAny_bind (wpAny_field he hd h1 ?_)
  rw [if_pos (show (Value.ref T0 != Value.none) = true from by simp)]
  refine wpAny_bind (wpAny_field hT hdT h3 ?_)
  rw [if_neg (show ¬ ((Value.none == rawInt L) = true) from by simp [rawInt])]
  refine wpAny_bind (wpAny_setField hT hdT (Array.getElem?_eq_some_iff.mp h3).1 ?_)
  have oth : ∀ b, b ≠ T0 → (s.heap.update T0 (Obj.mapFields (·.setIfInBounds 3 Value.none))).get? b = s.heap.get? b := fun b hb => Heap.get?_update_other _ _ (Ne.symm hb)
  have selfT := Heap.get?_update_self (Obj.mapFields (·.setIfInBounds 3 Value.none)) hT (Obj.isFreed_of_fields (Obj.data_mapFields hdT _))
  have nrec : ∀ b o, s.heap.get? b = some o → (∀ vs, o.data ≠ .fields vs) → b ≠ T0 := fun b o hb hnf q => by
    rw [q, hT] at hb
    cases hb
    exact hnf ts hdT
  have hl' : (s.heap.update T0 (Obj.mapFields (·.setIfInBounds 3 Value.none))).FunFrames base (env :: outer) := hl.of_keeps fun b o hb hnf => ⟨o, (oth b (nrec b o hb hnf)).trans hb, rfl⟩
  refine entry_x (s := { s with heap := s.heap.update T0 (Obj.mapFields (·.setIfInBounds 3 Value.none)) }) hfr hl' hf ((oth e (Ne.symm ne)).trans he) hd (Array.getElem?_eq_some_iff.mp h1).1 fun h' T N F => ?_
  refine h h' T (fun b o b1 b2 b3 q => N.keep b o b1 b3 ((oth b b2).trans q)) (fun b o b1 b2 q => N.slot b o b1 ((oth b b2).trans q)) (Nat.le_trans (Nat.le_of_eq (Heap.size_after_update _ _ _).symm) N.new) F fun b o q => ?_
  by_cases b1 : b = e
  · subst b1
    obtain ⟨oe', _, _, _, q', _⟩ := F
    exact ⟨oe', q'⟩
  · by_cases b2 : b = T0
    · subst b2
      obtain ⟨sl, q'⟩ := N.slot b _ b1 selfT
      exact ⟨_, q'⟩
    · obtain ⟨sl, q'⟩ := N.slot b o b1 ((oth b b2).trans q)
      exact ⟨_, q'⟩
end
end L2

namespace L2
open PySem PySem.Spec PyProof.Rows

/-- an exception lies behind a call: new, untracked, of the class cls, with the dict dct -/
noncomputable def CX1 (P : Program) (w : World) : CXT := fun outer H s E ev s' =>
  ∃ e T cls dct H', ev = .ref e ∧ s'.os = s.os ∧ AllBare s'.gens ∧ Un (frs outer) [] H H' s.heap s'.heap ∧ HOk P w H' s'.heap ∧ Fly s'.heap e T cls dct ∧
    s.heap.get? e = none ∧ s.heap.get? T = none ∧ H' e = none ∧ H' T = none ∧ E cls dct H'

section
variable {X : Cx} {pins : List (Addr × Obj)} {σ : St} {H : Hp} {s : Shared} {h' : Heap}
/-- what an exception's entries change leaves the rest as a callee must -/
theorem left_ok (I : Inv X pins σ H s) (hex : X.ex = []) (bad : List Addr) (hb : ∀ b ∈ bad, X.s₀.heap.get? b = none ∧ H b = none)
    (k1 : ∀ b o, b ∉ bad → b ∉ frs X.stack → s.heap.get? b = some o → h'.get? b = some o) (k2 : ∀ b o, b ∉ bad → s.heap.get? b = some o → ∃ sl, h'.get? b = some { o with slots := sl })
    (k3 : ∀ b o, s.heap.get? b = some o → ∃ o', h'.get? b = some o') : Un X.fs [] X.H₀ H X.s₀.heap h' ∧ HOk X.prog X.w H h' := by
  have B := I.base
  rw [hex] at B
  have nb : ∀ b o, X.s₀.heap.get? b = some o → b ∉ bad := fun b o q z => by
    rw [(hb b z).1] at q
    cases q
  have nL : ∀ b o, X.s₀.heap.get? b = some o → b ≠ X.env.locals := fun b o q => Nat.ne_of_lt (Nat.lt_of_lt_of_le (Heap.lt_size q) I.ok.above)
  have e0 : ∀ b : Addr, b ∉ ([] : List Addr) := fun b => by simp
  refine ⟨⟨fun b o q n hf _ => ?_, fun b o q n hf _ => ?_, B.free, fun b o q _ => ?_, B.tups, B.frzs, B.tbls⟩, fun a u q => ?_⟩
  · refine k1 b o (nb b o q) (fun z => ?_) (B.keep b o q n hf (e0 b))
    rcases List.mem_cons.mp (I.stkSub b z) with z | z
    · exact nL b o q z
    · exact hf z
  · obtain ⟨sl, q1⟩ := B.slot b o q n hf (e0 b)
    obtain ⟨sl', q2⟩ := k2 b _ (nb b o q) q1
    exact ⟨sl', q2⟩
  · obtain ⟨o1, q1⟩ := B.there b o q (e0 b)
    exact k3 b o1 q1
  · have tr : ∀ b v, H b = some v → b ∉ bad ∧ b ∉ frs X.stack := fun b v z => ⟨(fun y => absurd ((hb b y).2.symm.trans z) (by simp)), fun y => absurd ((I.stkFree b y).symm.trans z) (by simp)⟩
    refine (I.hok a u q).stay (fun b v hbv z => ?_) (fun _ z => z) fun _ _ z => z
    rcases hbv with rfl | hbv
    · exact k1 b v (tr b _ q).1 (tr b _ q).2 z
    · exact k1 b v (tr b _ hbv).1 (tr b _ hbv).2 z
end

section
variable {P : Program} {w : World} {K : PySem.W.Frag} {mg : Str → Option Value} {base : Heap} {N : List Str} {qual : Str} {scope : Scope} {f : Addr} {cd : Value} {A : Around} {outer : List Env} {s₀ : Shared} {H₀ : Hp} {E : XK}
noncomputable abbrev cx1 (P : Program) (w : World) (K : PySem.W.Frag) (mg : Str → Option Value) (base : Heap) (N : List Str) (qual : Str) (scope : Scope) (f : Addr) (cd : Value) (A : Around) (outer : List Env) (s₀ : Shared) (H₀ : Hp) (E : XK) : Cx :=
  cxOf (CX1 P w) P w K mg base N qual scope f cd A outer s₀ H₀ E


/-- an exception of a callee leaves the body -/
theorem pass1 : Passes (CX1 P w) (cx1 P w K mg base N qual scope f cd A outer s₀ H₀ E) E := by
  intro pins σ H s ev s' I hc
  obtain ⟨e, T0, cls, dct, H', rfl, os, bare, un, hok, F0, hne, hnT, hHe, hHT, q⟩ := hc
  have I' : Inv (cx1 P w K mg base N qual scope f cd A outer s₀ H₀ E) pins σ H' s' := I.call' (ch := []) os un hok bare fun b z => absurd z (by simp)
  have old : ∀ b, s.heap.get? b = none → s₀.heap.get? b = none := fun b z => by
    cases q1 : s₀.heap.get? b with
    | none => rfl
    | some o =>
      obtain ⟨o', q2⟩ := I.base.there b o q1 (show b ∉ ([] : List Addr) by simp)
      rw [z] at q2
      cases q2
  show wpAny _ _ (leaving _ _) _ _ _
  unfold leaving
  refine wpAny_bind (note_next (base := base) (L := s₀.heap.objs.size) I'.ok.frames I'.stack rfl F0 fun h1' T k1 k2 bT F k3 => ?_)
  refine flight_x (s := { s' with heap := h1' }) F fun h2 k F2 => ?_
  have tn : ∀ b o, s'.heap.get? b = some o → b ≠ T := fun b o z => Nat.ne_of_lt (Nat.lt_of_lt_of_le (Heap.lt_size z) bT)
  have s0T : s₀.heap.objs.size ≤ T := Nat.le_trans I'.sz bT
  obtain ⟨u, hk⟩ := left_ok (h' := h2) I' rfl [e, T0] (fun b hb => by
      rcases List.mem_cons.mp hb with z | hb
      · subst z
        exact ⟨old b hne, hHe⟩
      · have z : b = T0 := by simpa using hb
        subst z
        exact ⟨old b hnT, hHT⟩)
    (fun b o b1 b2 z => k b o (tn b o z) (k1 b o (fun y => b1 (by simp [y])) (fun y => b1 (by simp [y])) b2 z))
    (fun b o b1 z => by
      obtain ⟨sl, z1⟩ := k2 b o (fun y => b1 (by simp [y])) (fun y => b1 (by simp [y])) z
      exact ⟨sl, k b _ (tn b o z) z1⟩)
    (fun b o z => by
      obtain ⟨o1, z1⟩ := k3 b o z
      exact ⟨o1, k b _ (tn b o z) z1⟩)
  exact ⟨e, T, cls, dct, H', rfl, I'.os, bare, u, hk, F2, old e hne, Heap.get?_none_of_le s0T, hHe, hok.fresh bT, q⟩
/-- a loop hands on what leaves the body -/
theorem own1 : PassesOwn (model P w) (cx1 P w K mg base N qual scope f cd A outer s₀ H₀ E).A (cx1 P w K mg base N qual scope f cd A outer s₀ H₀ E).env (cx1 P w K mg base N qual scope f cd A outer s₀ H₀ E).xe := PassesOwn.leaving
end
end L2

namespace L2
open PySem PySem.Spec PyProof.Rows



section
variable {P : Program} {w : World} {K : PySem.W.Frag} {mg : Str → Option Value} {base : Heap} {N : List Str} {qual : Str} {scope : Scope} {f : Addr} {cd : Value} {A : Around} {outer : List Env} {s₀ : Shared} {H₀ : Hp} {E : XK}
end

section
variable {X : Cx} {x : Str} {C : Addr} {B newId initId : String} {bm : List Value} {np cpos pos : Pos} {E : XK} {e₀ : Expr} {rest : List Expr} {t : TA}
end
end L2

namespace L2
open PySem PySem.Spec PyProof.Rows
section
variable {X : Cx} {pins : List (Addr × Obj)} {σ : St} {H H' : Hp} {s : Shared} {h' : Heap}

/-- as Inv.step, where the records that turn are such as the entry's heap had nothing at -/
theorem Inv.stepN {g' : Array GenState} {t' : Nat} {d' : Drawn} {ch : List Addr} (I : Inv X pins σ H s)
    (hch : ∀ b ∈ ch, (b ∈ X.ex ∨ X.s₀.heap.get? b = none) ∧ b ≠ X.env.locals ∧ (∀ x c, X.env.cells.lookup x = some c → c ≠ b) ∧ ∀ p ∈ X.pn ++ pins, p.1 ≠ b)
    (keep : ∀ b o, b ≠ X.env.locals → b ∉ X.fs → b ∉ ch → s.heap.get? b = some o → H b = none → h'.get? b = some o)
    (slot : ∀ b o, b ≠ X.env.locals → b ∈ X.fs → b ∉ ch → s.heap.get? b = some o → H b = none → ∃ sl, h'.get? b = some { o with slots := sl }) (free : ∀ b o, b ∉ ch → s.heap.get? b = some o → H b = none → H' b = none)
    (there : ∀ b o, b ∉ ch → s.heap.get? b = some o → ∃ o', h'.get? b = some o')
    (tups : ∀ b xs, H b = some (.tup xs) → H' b = some (.tup xs)) (frzs : ∀ b o u, H b = some (.frz o u) → H' b = some (.frz o u)) (tbls : ∀ b ps, H b = some (.tbl ps) → ∃ more, H' b = some (.tbl (ps ++ more)))
    (ns : ∀ m, s.heap.Ns X.env.locals m → h'.Ns X.env.locals m) (hok : HOk X.prog X.w H' h') (hg : AllBare g') :
    Inv X pins σ H' { s with heap := h', gens := g', drawn := d', toks := t' } := by
  have neL : ∀ b o, X.s₀.heap.get? b = some o → b ≠ X.env.locals := fun b o e => Nat.ne_of_lt (Nat.lt_of_lt_of_le (Heap.lt_size e) I.ok.above)
  have neC : ∀ b o, X.s₀.heap.get? b = some o → b ∉ X.ex → b ∉ ch := fun b o e hx hb => by
    rcases (hch b hb).1 with z | z
    · exact hx z
    · rw [z] at e
      cases e
  have cellK : ∀ x c, X.env.cells.lookup x = some c → ∀ v, s.heap.IsCell c v → h'.IsCell c v := fun x c e v ⟨o, ho, hd⟩ => by
    have nch : c ∉ ch := fun z => (hch c z).2.2.1 x c e rfl
    by_cases hc : c ∈ X.fs
    · obtain ⟨sl, q⟩ := slot c o (I.cne x c e) hc nch ho (I.freeC x c e)
      exact ⟨_, q, hd⟩
    · exact ⟨o, keep c o (I.cne x c e) hc nch ho (I.freeC x c e), hd⟩
  refine ⟨I.ok, I.os, hg, ⟨fun b o e n hb hx => ?_, fun b o e n hb hx => ?_, fun b o e n hx => ?_, fun b o e hx => ?_, fun b xs e => tups b xs (I.base.tups b xs e), fun b o xs e => frzs b o xs (I.base.frzs b o xs e), fun b ps e => ?_⟩, ?_, fun x c e => ?_, ?_, fun x c e => ?_, fun p hp => ?_, hok, I.len⟩
  · exact keep b o (neL b o e) hb (neC b o e hx) (I.base.keep b o e n hb hx) (I.base.free b o e n hx)
  · obtain ⟨sl, e1⟩ := I.base.slot b o e n hb hx
    obtain ⟨sl', e2⟩ := slot b _ (neL b o e) hb (neC b o e hx) e1 (I.base.free b o e n hx)
    exact ⟨sl', e2⟩
  · obtain ⟨o', e1⟩ := I.base.there b o e hx
    exact free b o' (neC b o e hx) e1 (I.base.free b o e n hx)
  · obtain ⟨o', e1⟩ := I.base.there b o e hx
    exact there b o' (neC b o e hx) e1
  · obtain ⟨m1, e1⟩ := I.base.tbls b ps e
    obtain ⟨m2, e2⟩ := tbls b _ e1
    exact ⟨m1 ++ m2, by rw [e2, Array.append_assoc]⟩
  · obtain ⟨m, hn, hl⟩ := I.loc
    refine ⟨m, ns m hn, fun i x v e1 e2 e3 => ?_⟩
    obtain ⟨u, r, l⟩ := hl i x v e1 e2 e3
    refine ⟨u, r, ?_⟩
    rcases l with l | ⟨k, c, e, z⟩
    · exact .inl l
    · exact .inr ⟨k, c, e, cellK x c e _ z⟩
  · obtain ⟨v, z⟩ := I.cell x c e
    exact ⟨v, cellK x c e v z⟩
  · obtain ⟨m, ⟨o, _, _, ho, _⟩, _⟩ := I.loc
    exact free _ o (fun z => (hch _ z).2.1 rfl) ho I.free
  · obtain ⟨v, o, ho, hd⟩ := I.cell x c e
    exact free c o (fun z => (hch c z).2.2.1 x c e rfl) ho (I.freeC x c e)
  · obtain ⟨e, n, ne, nf, d⟩ := I.pin p hp
    have nch : p.1 ∉ ch := fun z => (hch p.1 z).2.2.2 p hp rfl
    exact ⟨keep p.1 p.2 ne nf nch e n, free p.1 p.2 nch e n, ne, nf, d⟩

/-- a thing that the state knows nothing of is apart from the frame, the cells, the pins -/
structure Apart (X : Cx) (pins : List (Addr × Obj)) (e : Addr) : Prop where
  old : X.s₀.heap.get? e = none
  loc : e ≠ X.env.locals
  cel : ∀ x c, X.env.cells.lookup x = some c → c ≠ e
  pin : ∀ p ∈ X.pn ++ pins, p.1 ≠ e
theorem Inv.apart (I : Inv X pins σ H s) (hex : X.ex = []) {e : Addr} (hn : s.heap.get? e = none) : Apart X pins e := by
  have ne : ∀ b o, s.heap.get? b = some o → b ≠ e := fun b o q z => by
    rw [z, hn] at q
    cases q
  refine ⟨?_, ?_, fun x c q => ?_, fun p hp => ne _ _ (I.pin p hp).1⟩
  · cases q1 : X.s₀.heap.get? e with
    | none => rfl
    | some o =>
      obtain ⟨o', q2⟩ := I.base.there e o q1 (by rw [hex]; simp)
      rw [hn] at q2
      cases q2
  · obtain ⟨m, ⟨o, _, _, ho, _⟩, _⟩ := I.loc
    exact Ne.symm (ne _ _ ho)
  · obtain ⟨v, o, ho, _⟩ := I.cell x c q
    exact ne _ _ ho

/-- .. and no more -/
noncomputable def drop (H : Hp) (e : Addr) : Hp := fun b => if b = e then none else H b
theorem drop_same {H : Hp} {e : Addr} : drop H e e = none := if_pos rfl
theorem drop_ne {H : Hp} {e b : Addr} (h : b ≠ e) : drop H e b = H b := if_neg h

end
end L2

namespace L2
open PySem PySem.Spec PyProof.Rows



section
variable {X : Cx} {pins : List (Addr × Obj)} {σ : St} {H : Hp} {s : Shared} {e : Addr}

/-- the record of an entry turns -/
theorem Inv.recd {T : Addr} {h' : Heap} (I : Inv X pins σ H s) (a : Apart X pins T) (hT : H T = none) (nf : T ∉ X.fs) (k : ∀ b o, b ≠ T → s.heap.get? b = some o → h'.get? b = some o) : Inv X pins σ H { s with heap := h' } := by
  have kt : ∀ b u, H b = some u → b ≠ T := fun b u q z => by
    rw [z, hT] at q
    cases q
  refine I.stepN (g' := s.gens) (d' := s.drawn) (t' := s.toks) (ch := [T]) (fun b hb => ?_) (fun b o _ _ hc q _ => k b o (by simpa using hc) q) (fun b o _ hf hc q _ => ⟨o.slots, k b o (by simpa using hc) q⟩) (fun b o _ _ n => n)
    (fun b o hc q => ⟨o, k b o (by simpa using hc) q⟩) (fun _ _ q => q) (fun _ _ _ q => q) (fun b ps q => ⟨#[], by rw [q]; simp⟩) (fun m hm => ?_) (fun b u q => ?_) I.bare
  · have z : b = T := by simpa using hb
    subst z
    exact ⟨.inr a.old, a.loc, a.cel, a.pin⟩
  · obtain ⟨o, es, ep, ho, r⟩ := hm
    exact ⟨o, es, ep, k _ o (Ne.symm a.loc) ho, r⟩
  · refine (I.hok b u q).stay (fun c v hc z => k c v ?_ z) (fun _ z => z) fun _ _ z => z
    rcases hc with rfl | hc
    · exact kt c u q
    · exact kt c _ hc


end
end L2

namespace L2
open PySem PySem.Spec PyProof.Rows

section
variable {X : Cx} {k : Nat} {f C : Addr} {fd : FuncData} {ps : List Str} {sp : Sp} {dvs : List V} {ds : List Value} {x m : Str} {p pos apos epos cpos : Pos} {e o : Expr} {es : List Expr} {ta : TE} {t : TA}

/-! ### try: one call; one except -/
variable {te : XK → TE} {cx n : Str} {np hpos tpos : Pos} {i : Nat} {b₀ : Stmt} {suite : List Stmt} {ts : TS} {Cc : Addr} {call : Expr}
end

section
variable {P : Program} {w : World} {K : PySem.W.Frag} {mg : Str → Option Value} {base : Heap}
/-- THE RULE for a def that may raise -/
theorem Fun.ok1 {x qual : Str} {st : Stmt} {f : Addr} {fd : FuncData} {N ps : List Str} {k : Nat} {sp : Sp} (F : Fun K x qual st f fd) (S : FnScope N ps (defScope st)) (len : ∀ vs H Q E, sp vs H Q E → vs.length = ps.length)
    (hbody : ∀ (cdv : Value) (A : Around) (outer : List Env) (s : Shared) (H : Hp) (vs : List V) (Q : VK) (E : XK), Room k (A.deeper (envOfC qual (defScope st) s.heap.objs.size f cdv)) → sp vs H Q E →
      ∃ t, PSs (cx1 P w K mg base N qual (defScope st) f cdv A outer s H E) (defBody st) t ∧ t { nx := fun _ H' => Q .non H', rt := Q } (start N vs) H) : FnOk P w K mg base (CX1 P w) (k + 1) f fd ps sp := by
  obtain ⟨oc, od, kV, doc, pm, an, cdv, ct, osl, rfl, lk, hcd⟩ := F.ex
  exact fn_of lk hcd S len fun A outer s H vs Q E hr hsp => hbody cdv A outer s H vs Q E hr hsp
end
end L2

set_option maxHeartbeats 4000000
namespace L2
open PySem PySem.Spec PyProof.Rows
open Builtin Builtin.ObjectAttr

section
variable {prog : Program} {w : World} {A : Around} {E : Value → Shared → Prop} {h : Heap} {g : Array GenState} {d : Drawn} {t : Nat} {os : OsState}
variable {nm q : Str} {C N x : Addr} {bs : List Value} {sn : List Str} {sub : List Value} {ab : Bool} {col : Option Bool} {dd : Option Addr} {k0 k1 k2 k3 k5 : Option Value} {newId : String}
  {mN mA : Str → Option Value} {name : Str} {v : Value}


end
end L2

set_option maxHeartbeats 1000000
namespace L2
open PySem PySem.Spec PyProof.Rows
open Builtin Builtin.ObjectAttr

section
variable {prog : Program} {w : World} {A : Around} {E : Value → Shared → Prop} {h : Heap} {g : Array GenState} {d : Drawn} {t : Nat} {os : OsState}
variable {nm q : Str} {C N x : Addr} {bs : List Value} {sn : List Str} {sub : List Value} {ab : Bool} {col : Option Bool} {dd : Option Addr} {k0 k1 k2 k3 k5 : Option Value} {newId : String}
  {mN mA : Str → Option Value} {name : Str} {v : Value}

end
end L2

/-! COMPREHENSIONS over the hand layer: a list of one for, with tests; what the block captures. -/
namespace L2
open PySem PySem.Spec PyProof.Rows

section
variable {prog : Program} {w : World} {A : Around} {R : Result → Shared → Prop} {s : Shared}
theorem comp_loop {elt target iter : Expr} {ifs : List Expr} {scope : Scope} {pos : Pos} {it acc : Value} {env : Env} (I : Nat → Shared → Prop)
    (turn : ∀ n s, I n s → wpAny (model prog w) A (pyNext it) (fun r s1 => match r with
      | none => R (.ok .next) s1
      | some v => wpAny (model prog w) A (letOwnedTupleGo target it v) (fun _ s1' => wpAny (model prog w) A (assign target env v) (fun _ s2 =>
          wpAny (model prog w) A (forIn ifs true fun c r => if r = true then do let ok ← isTrue c env (eval c env); pure (ForInStep.yield ok) else pure (ForInStep.yield r)) (fun ok s3 =>
            if ok = true then wpAny (model prog w) A (eval elt env) (fun x s4 =>
              wpAny (model prog w) A (call (.builtin "list.append") [acc, x]) (fun _ s5 => ∃ m, m < n ∧ I m s5) (notedBy (model prog w) A env fun e s' => R (.error e) s') s4) (notedBy (model prog w) A env fun e s' => R (.error e) s') s3
            else ∃ m, m < n ∧ I m s3) (notedBy (model prog w) A env fun e s' => R (.error e) s') s2) (notedBy (model prog w) A env fun e s' => R (.error e) s') s1') (notedBy (model prog w) A env fun e s' => R (.error e) s') s1) (notedBy (model prog w) A env fun e s' => R (.error e) s') s)
    (n : Nat) (h : I n s) : codeAny (model prog w) A (.compLoop (.ListComp elt [⟨target, iter, ifs, 0⟩] scope pos) 0 it acc env) R s := by
  refine codeAny_loop rfl I (fun n s hI => ?_) n h
  show wpAny _ A ((compTurn (.ListComp elt [⟨target, iter, ifs, 0⟩] scope pos) 0 it acc env).onRaise (fun x => do noteFrame x env; theTreesLotGoes x)) _ _ s
  refine wpAny_noted ?_
  rw [compTurn_list]
  refine wpAny_bind (wpAny_standAt (wpAny_bind (thn (turn n s hI) fun r s1 h1 => ?_)))
  cases r with
  | none => exact wpAny_pure h1
  | some v =>
    refine wpAny_bind (thn h1 fun _ s1' h1' => wpAny_bind (thn h1' fun _ s2 h2 => wpAny_bind (thn h2 fun ok s3 h3 => ?_)))
    cases ok with
    | false => exact wpAny_pure ⟨rfl, h3⟩
    | true => exact wpAny_bind (wpAny_bind (thn h3 fun x s4 h4 => wpAny_bind (thn h4 fun _ s5 h5 => wpAny_pure (wpAny_pure ⟨rfl, h5⟩))))
end

/-- the tests of a comprehension, from the left -/
noncomputable def PIfs (X : Cx) (ifs : List Expr) (t : TT) : Prop :=
  ∀ (pins : List (Addr × Obj)) (s : Shared) (σ : St) (H : Hp) (Q : Bool → Hp → Prop), Inv X pins σ H s → t σ H Q →
    wpAny (model X.prog X.w) X.A (forIn ifs true fun c r => if r = true then do let ok ← isTrue c X.env (eval c X.env); pure (ForInStep.yield ok) else pure (ForInStep.yield r)) (TP X pins σ Q) X.xe s
noncomputable def tNoIf : TT := fun _ H Q => Q true H
theorem pifs_nil {X : Cx} : PIfs X [] tNoIf := by
  intro pins s σ H Q I h
  exact wpAny_pure ⟨H, I, h⟩
theorem pifs_one {X : Cx} {c : Expr} {t : TT} (hc : PT X c t) : PIfs X [c] t := by
  intro pins s σ H Q I h
  show wpAny _ _ (forIn [c] true _) _ _ _
  rw [List.forIn_cons]
  refine wpAny_bind ?_
  rw [if_pos rfl]
  refine wpAny_bind (thn (hc pins s σ H Q I h) fun b s1 q => wpAny_pure ?_)
  exact wpAny_pure q

section
variable {X : Cx} {pins : List (Addr × Obj)} {σ : St} {H : Hp} {s : Shared}
theorem closure_go (env : Env) : ∀ (names : List (Str × NameKind)) (acc : List (Str × Addr)), (∀ y ∈ names, y.2 = .free → ∃ c, env.cells.lookup y.1 = some c) → (∀ x c, acc.lookup x = some c → env.cells.lookup x = some c) →
    ∃ cl, (forIn names acc fun (x : Str × NameKind) (r : List (Str × Addr)) => (match x with | (name, kind) => if (kind == NameKind.free) = true then do let a ← cellOf env name; pure (ForInStep.yield ((name, a) :: r)) else pure (ForInStep.yield r) : Sem (ForInStep (List (Str × Addr))))) = pure cl ∧
      (∀ x c, cl.lookup x = some c → env.cells.lookup x = some c) ∧ (∀ x c, acc.lookup x = some c → ∃ c', cl.lookup x = some c') ∧ ∀ y ∈ names, y.2 = .free → ∃ c, cl.lookup y.1 = some c
  | [], acc, _, h2 => ⟨acc, rfl, h2, fun x c e => ⟨c, e⟩, fun y hy => by simp at hy⟩
  | (n, k) :: r, acc, h1, h2 => by
    rw [List.forIn_cons]
    by_cases hk : k = .free
    · subst hk
      obtain ⟨c, hc⟩ := h1 (n, .free) List.mem_cons_self rfl
      obtain ⟨cl, e1, e2, e3, e4⟩ := closure_go env r ((n, c) :: acc) (fun y hy => h1 y (List.mem_cons_of_mem _ hy)) (fun x c' e => by
        rw [List.lookup_cons] at e
        cases hx : x == n with
        | true =>
          rw [hx] at e
          have : x = n := by simpa using hx
          subst this
          cases e
          exact hc
        | false =>
          rw [hx] at e
          exact h2 x c' e)
      refine ⟨cl, ?_, e2, fun x c' e => ?_, fun y hy hf => ?_⟩
      · have hcell : cellOf env n = pure c := by simp only [cellOf, hc]
        simp only [beq_self_eq_true, if_true, hcell, pure_bind]
        exact e1
      · cases hx : x == n with
        | true => exact e3 x c (by rw [List.lookup_cons, hx])
        | false => exact e3 x c' (by rw [List.lookup_cons, hx]; exact e)
      · rcases List.mem_cons.mp hy with rfl | hy
        · exact e3 n c (by rw [List.lookup_cons]; simp)
        · exact e4 y hy hf
    · obtain ⟨cl, e1, e2, e3, e4⟩ := closure_go env r acc (fun y hy => h1 y (List.mem_cons_of_mem _ hy)) h2
      refine ⟨cl, ?_, e2, e3, fun y hy hf => ?_⟩
      · have hb : (k == NameKind.free) = false := by simpa using hk
        simp only [hb, Bool.false_eq_true, if_false, pure_bind]
        exact e1
      · rcases List.mem_cons.mp hy with rfl | hy
        · exact absurd hf hk
        · exact e4 y hy hf
theorem closure_of {env : Env} {scope : Scope} (h : ∀ y ∈ scope.names, y.2 = .free → ∃ c, env.cells.lookup y.1 = some c) :
    ∃ cl, closureFor scope env = pure cl ∧ (∀ x c, cl.lookup x = some c → env.cells.lookup x = some c) ∧ ∀ y ∈ scope.names, y.2 = .free → ∃ c, cl.lookup y.1 = some c := by
  obtain ⟨cl, e1, e2, _, e4⟩ := closure_go env scope.names [] h (fun x c e => by simp at e)
  refine ⟨cl, ?_, e2, e4⟩
  unfold closureFor
  show (forIn scope.names [] _ >>= fun r => pure r) = pure cl
  rw [show ∀ m : Sem (List (Str × Addr)), (m >>= fun r => pure r) = m from fun m => bind_pure m]
  exact e1
end
end L2

namespace L2
open PySem PySem.Spec PyProof.Rows

/-- a comprehension's block: its own names are put into a new map at C, the names around are cells -/
noncomputable def Cx.blk (X : Cx) (scope : Scope) (N : List Str) (cl : List (Str × Addr)) (C : Addr) (s : Shared) (H : Hp) (fp : List Addr) (pins : List (Addr × Obj)) : Cx where
  prog := X.prog
  w := X.w
  K := X.K
  mg := X.mg
  base := X.base
  A := X.A
  N := N
  s₀ := s
  H₀ := H
  env := compEnvC scope cl C X.env
  outer := X.stack
  stack := X.stack
  ex := fp
  fn := fun _ => false
  calm := X.calm
  pn := X.pn ++ pins
  xe := fun _ _ => False

/-- k names of its own, and those around in the slots at is -/
noncomputable def capsOf (k : Nat) (is : List Nat) (σ : St) : St := List.replicate k none ++ is.map fun i => (σ[i]?).join

theorem lookup_relabel {env : Env} : ∀ {names : List (Str × NameKind)} {x : Str} {k : NameKind},
    (names.map fun (n, k) => if (k == NameKind.free && env.scope.kind == .function && env.kindOf n == some .cell) then (n, NameKind.cell) else (n, k)).lookup x = some k → ∃ k0, (x, k0) ∈ names ∧ (k0 = k ∨ k0 = .free)
  | [], _, _, h => by simp at h
  | (n, k0) :: r, x, k, h => by
    rw [List.map_cons] at h
    have st : ∃ k1, (if (k0 == NameKind.free && env.scope.kind == .function && env.kindOf n == some .cell) = true then (n, NameKind.cell) else (n, k0)) = (n, k1) ∧ (k1 = k0 ∨ k0 = .free) := by
      split
      · rename_i hc
        refine ⟨_, rfl, .inr ?_⟩
        simp only [Bool.and_eq_true, beq_iff_eq] at hc
        exact hc.1.1
      · exact ⟨_, rfl, .inl rfl⟩
    obtain ⟨k1, e1, e2⟩ := st
    simp only at h
    rw [e1, List.lookup_cons] at h
    cases hx : x == n with
    | true =>
      rw [hx] at h
      have : x = n := by simpa using hx
      subst this
      cases h
      refine ⟨k0, List.mem_cons_self, ?_⟩
      rcases e2 with e2 | e2
      · exact .inl e2.symm
      · exact .inr e2
    | false =>
      rw [hx] at h
      obtain ⟨k2, m, z⟩ := lookup_relabel (env := env) (names := r) h
      exact ⟨k2, List.mem_cons_of_mem _ m, z⟩

/-- what a comprehension's scope must be, as it lies in the text -/
structure BlkScope (X : Cx) (scope : Scope) (own capn : List Str) (capI : List Nat) : Prop where
  kind : scope.kind = .function
  cell : ∀ y ∈ scope.names, y.2 ≠ .cell
  names : ∀ y ∈ scope.names, y.2 = .local → scope.names.lookup y.1 = some .local
  free : ∀ y ∈ scope.names, y.2 = .free → X.env.scope.names.lookup y.1 = some .cell
  caps : capI.map (fun i => X.N[i]?) = capn.map some
  capc : ∀ y ∈ capn, X.env.scope.names.lookup y = some .cell ∧ (relabel scope X.env).names.lookup y = some .cell

section
variable {X : Cx} {pins : List (Addr × Obj)} {σ : St} {H : Hp} {s : Shared}
/-- at the block's beginning -/
theorem blk_start {scope : Scope} {own capn : List Str} {capI : List Nat} {cl : List (Str × Addr)} {fp : List Addr} {h' : Heap} {t' : Nat} (B : BlkScope X scope own capn capI) (I : Inv X pins σ H s) (hf : ∀ b ∈ fp, FpOk X pins H b) (ho : ∀ b ∈ fp, ∃ o, s.heap.get? b = some o)
    (hcl : ∀ x c, cl.lookup x = some c → X.env.cells.lookup x = some c) (hcf : ∀ y ∈ scope.names, y.2 = .free → ∃ c, cl.lookup y.1 = some c)
    (hn : h'.Ns s.heap.objs.size (fun _ => none)) (hk : ∀ b o, s.heap.get? b = some o → h'.get? b = some o) :
    Inv (X.blk scope (own ++ capn) cl s.heap.objs.size s H fp pins) [] (capsOf own.length capI σ) H { s with heap := h', toks := t' } := by
  have lt : ∀ b o, s.heap.get? b = some o → b ≠ s.heap.objs.size := fun b o e => Nat.ne_of_lt (Heap.lt_size e)
  have hkind : ∀ x, ((relabel scope X.env).names.lookup x = some .cell ∨ (relabel scope X.env).names.lookup x = some .free) → ∃ c, cl.lookup x = some c := fun x hx => by
    have z : ∃ k, (k = .cell ∨ k = .free) ∧ (relabel scope X.env).names.lookup x = some k := by
      rcases hx with hx | hx
      · exact ⟨_, .inl rfl, hx⟩
      · exact ⟨_, .inr rfl, hx⟩
    obtain ⟨k, hk, hx⟩ := z
    obtain ⟨k0, m, z⟩ := lookup_relabel (env := X.env) hx
    have : k0 = .free := by
      rcases z with z | z
      · rcases hk with hk | hk
        · exact absurd (z.trans hk) (B.cell _ m)
        · exact z.trans hk
      · exact z
    exact hcf _ m this
  have nfs : ∀ b, b ≠ X.env.locals → b ∉ X.fs → b ∉ frs X.stack := fun b h1 h2 z => by
    rcases List.mem_cons.mp (I.stkSub b z) with z | z
    · exact h1 z
    · exact h2 z
  have cellAt : ∀ x c, cl.lookup x = some c → ∃ v o, s.heap.get? c = some o ∧ o.data = .cell v := fun x c e => by
    obtain ⟨v, o, ho, hd⟩ := I.cell x c (hcl x c e)
    exact ⟨v, o, ho, hd⟩
  have ok : (X.blk scope (own ++ capn) cl s.heap.objs.size s H fp pins).Ok := by
    refine ⟨I.ok.mod, B.kind, I.ok.glob, I.ok.blt, Nat.le_refl _, fun x y c e1 e2 => I.ok.inj x y c (hcl x c e1) (hcl y c e2), fun x hx => hkind x hx, (fun x c e => absurd (show false = true from e) (by decide)), I.ok.hd, I.ok.frames, .inl rfl, fun b hb => ?_, I.bs, Nat.le_trans I.ok.bsz I.sz, fun b o e hb => ?_, fun b hb => ?_, I.stack, fun b hb => I.stkFree b hb⟩
    · obtain ⟨o, e⟩ := ho b hb
      exact ⟨lt b o e, fun x c ec => (hf b hb).2.2.2.2.1 x c (hcl x c ec)⟩
    · rcases (hf b hb).2.2.2.1 with z | z
      · exact I.ok.noex b o e z
      · exact absurd (Nat.lt_of_lt_of_le (Heap.lt_size (I.ok.bs b o e).1) z) (Nat.lt_irrefl _)
    · exact nfs b (hf b hb).2.1 (hf b hb).2.2.1
  refine ⟨ok, rfl, I.bare, Un.kept hk, ⟨_, hn, fun i x v e1 e2 e3 => ?_⟩, fun x c e => ?_, I.hok.fresh (Nat.le_refl _), fun x c e => I.freeC x c (hcl x c e), fun p hp => ?_, I.hok.kept hk, ?_⟩
  · unfold capsOf at e2
    have hi : own.length ≤ i := by
      by_cases h : own.length ≤ i
      · exact h
      · rw [List.getElem?_append_left (by simpa using h), List.getElem?_replicate] at e2
        split at e2 <;> cases e2
    rw [List.getElem?_append_right (by simpa using hi), List.length_replicate, List.getElem?_map] at e2
    have e1' : (own ++ capn)[i]? = some x := e1
    rw [List.getElem?_append_right hi] at e1'
    cases hc : capI[i - own.length]? with
    | none => rw [hc] at e2; cases e2
    | some j =>
      rw [hc] at e2
      have e4 : (σ[j]?).join = some v := by simpa using e2
      have e5 : σ[j]? = some (some v) := by
        cases q : σ[j]? with
        | none => rw [q] at e4; cases e4
        | some o => rw [q] at e4; cases o with | none => cases e4 | some v' => cases e4; rfl
      have e6 : X.N[j]? = some x := by
        have z := congrArg (fun l => l[i - own.length]?) B.caps
        simp only [List.getElem?_map, hc, e1', Option.map_some] at z
        exact Option.some.inj z
      have cx := B.capc x (List.mem_of_getElem? e1')
      obtain ⟨m, hm, hl⟩ := I.loc
      obtain ⟨u, r, l⟩ := hl j x v e6 e5 (.inr (.inl cx.1))
      refine ⟨u, r, .inr ?_⟩
      obtain ⟨c', hc'⟩ := hkind x (.inl cx.2)
      have hc2 := hcl x c' hc'
      rcases l with ⟨k, _⟩ | ⟨_, c, ec, o, hoc, hdc⟩
      · have k' : X.env.scope.names.lookup x = some .local := k
        rw [cx.1] at k'
        cases k'
      · rw [hc2] at ec
        cases ec
        exact ⟨.inl cx.2, c', hc', o, hk _ _ hoc, hdc⟩
  · obtain ⟨v, o, hoc, hd⟩ := cellAt x c e
    exact ⟨v, o, hk _ _ hoc, hd⟩
  · have hp' : p ∈ X.pn ++ pins := by
      have z : p ∈ (X.pn ++ pins) ++ [] := hp
      simpa using z
    obtain ⟨e, n, ne, nf, d⟩ := I.pin p hp'
    exact ⟨hk _ _ e, n, lt _ _ e, nfs _ ne nf, d⟩
  · show (List.replicate own.length none ++ capI.map _).length = (own ++ capn).length
    have z := congrArg List.length B.caps
    simp only [List.length_map] at z
    simp [z]
end
end L2

namespace L2
open PySem PySem.Spec PyProof.Rows

/-- [elt for target in iter if ..]: W is the invariant, by the turn and a measure, over the block's names, the items so far, the heap -/
noncomputable def tLC (wi : TI) (k : Nat) (capI : List Nat) (g : TG) (tt : TT) (te : TE) : TE := fun σ H Q => wi σ H fun J H1 => ∀ D, H1 D = none → ∃ W : Nat → Nat → St → List V → Hp → Prop, (∃ m, W 0 m (capsOf k capI σ) [] (upd H1 D (.lst []))) ∧
  ∀ i m σ' acc H, W i m σ' acc H → (J.stop i H ∧ Q (.ref D) H) ∨ (J.go i H ∧ ∀ x H', J.yld i H x H' → g x σ' H' fun σ2 H2 => tt σ2 H2 fun b H3 =>
    if b = true then te σ2 H3 fun y H4 => H4 D = some (.lst acc) ∧ acc.length < sizeLine ∧ ∃ m', m' < m ∧ W (i + 1) m' σ2 (acc ++ [y]) (upd H4 D (.lst (acc ++ [y]))) else ∃ m', m' < m ∧ W (i + 1) m' σ2 acc H3)

section
variable {X : Cx} {pins : List (Addr × Obj)} {σ : St} {H : Hp} {s : Shared}
/-- behind the block -/
theorem blk_end {scope : Scope} {N : List Str} {cl : List (Str × Addr)} {fp : List Addr} {h' : Heap} {σ' : St} {H' : Hp} {s' : Shared} (I : Inv X pins σ H s) (hf : ∀ b ∈ fp, FpOk X pins H b)
    (J : Inv (X.blk scope N cl s.heap.objs.size s H fp pins) [] σ' H' s') (hs : Heap.SameBut s.heap.objs.size s'.heap h') : Inv X pins σ H' { s' with heap := h' } := by
  have B := J.base
  have ne : ∀ b o, s.heap.get? b = some o → b ≠ s.heap.objs.size := fun b o e => Nat.ne_of_lt (Heap.lt_size e)
  have u : Un (frs X.stack) fp H H' s.heap h' := ⟨fun b o e n h1 h2 => (hs.2 b (ne b o e)).trans (B.keep b o e n h1 h2), fun b o e n h1 h2 => by
      obtain ⟨sl, z⟩ := B.slot b o e n h1 h2
      exact ⟨sl, (hs.2 b (ne b o e)).trans z⟩, B.free, fun b o e h2 => by
      obtain ⟨o', z⟩ := B.there b o e h2
      exact ⟨o', (hs.2 b (ne b o e)).trans z⟩, B.tups, B.frzs, B.tbls⟩
  have hok : HOk X.prog X.w H' h' := fun b o e => by
    refine (J.hok b o e).stay (fun c v hc q => (hs.2 c ?_).trans q) (fun _ z => z) fun _ _ z => z
    have fr : H' s.heap.objs.size = none := J.free
    rintro rfl
    rcases hc with z | z
    · rw [← z, fr] at e
      cases e
    · rw [fr] at z
      cases z
  exact I.call' (s' := { s' with heap := h' }) (ch := fp) J.os u hok J.bare fun b hb => ⟨(hf b hb).2.2.2.1, (hf b hb).2.1, (hf b hb).2.2.2.2.1, (hf b hb).2.2.2.2.2⟩

variable {elt iter tg : Expr} {ifs : List Expr} {scope : Scope} {pos : Pos} {own capn : List Str} {capI : List Nat} {wi : TI} {g : TG} {tt : TT} {te : TE}
theorem pe_lc (hc : X.calm = true) (B : BlkScope X scope own capn capI) (hi : PI X tg iter wi) (hg : ∀ cl C s H fp pins, PG (X.blk scope (own ++ capn) cl C s H fp pins) tg g)
    (ht : ∀ cl C s H fp pins, PIfs (X.blk scope (own ++ capn) cl C s H fp pins) ifs tt) (he : ∀ cl C s H fp pins, PE (X.blk scope (own ++ capn) cl C s H fp pins) elt te)
    (hs : ∀ x, foldedSetIterable iter X.env x = pure x := by intro _; rfl) : PE X (.ListComp elt [⟨tg, iter, ifs, 0⟩] scope pos) (tLC wi own.length capI g tt te) := by
  intro pins s σ H Q I h
  rw [eval_ListComp]
  obtain ⟨cl, hclos, hcl, hcf⟩ := closure_of (env := X.env) (scope := scope) (fun y hy hf => I.ok.has y.1 (.inl (B.free y hy hf)))
  refine wpAny_comprehension_free (use := none) rfl hs hclos B.kind B.names (thn (hi pins s σ H _ I h) fun v s1 h1 => thn h1 fun itv s2 h2 => ?_)
  obtain ⟨it, fp, tn, J, H2, e, I2, T, st2, f2, hW⟩ := h2
  subst e
  obtain ⟨W, ⟨m0, w0⟩, turn⟩ := hW s2.heap.objs.size (I2.hok.fresh (Nat.le_refl _))
  refine wpAny_newObj_type (wpAny_newFunctionEnv B.cell (by intro y hy; simp at hy) (fun h4 hns hsb => ?_) B.kind)
  dsimp only at hns hsb ⊢
  have I3 : Inv X pins σ (upd H2 s2.heap.objs.size (.lst [])) { s2 with heap := s2.heap.push { cls := .type "list", dict := none, data := .seq ([] : List Value).toArray } } :=
    I2.laid (t' := s2.toks) (fun b u e => Heap.get?_push_of_some _ e) (Nat.le_refl _) ⟨Nat.zero_le _, [], 0, .nil, Heap.get?_push_size _ rfl⟩
  generalize hs3 : ({ s2 with heap := s2.heap.push { cls := .type "list", dict := none, data := .seq ([] : List Value).toArray } } : Shared) = s3 at I3
  have e3 : s2.heap.push { cls := .type "list", dict := none, data := .seq ([] : List Value).toArray } = s3.heap := by rw [← hs3]
  have ob2 : ∀ b ∈ fp, ∃ o, s2.heap.get? b = some o := fun b hb => let ⟨o, z, _⟩ := T.obj _ _ st2 b hb; ⟨o, z⟩
  have up3 : ∀ b o, s2.heap.get? b = some o → s3.heap.get? b = some o := fun b o z => by
    rw [← e3]
    exact Heap.get?_push_of_some _ z
  have f3 : ∀ b ∈ fp, FpOk X pins (upd H2 s2.heap.objs.size (.lst [])) b := fun b hb => by
    obtain ⟨o, z⟩ := ob2 b hb
    exact ⟨by rw [upd_ne (Nat.ne_of_lt (Heap.lt_size z))]; exact (f2 b hb).1, (f2 b hb).2⟩
  have ob3 : ∀ b ∈ fp, ∃ o, s3.heap.get? b = some o := fun b hb => let ⟨o, z⟩ := ob2 b hb; ⟨o, up3 b o z⟩
  rw [e3] at hns hsb ⊢
  have up4 : ∀ b o, s3.heap.get? b = some o → h4.get? b = some o := fun b o z => (hsb.2 b (Nat.ne_of_lt (Heap.lt_size z))).trans (Heap.get?_push_of_some _ z)
  have IB := blk_start (t' := s2.toks + ([] : List (Str × Value)).length) B I3 f3 ob3 hcl hcf hns up4
  have e4 : ({ s3 with heap := h4, toks := s2.toks + ([] : List (Str × Value)).length } : Shared) = { s2 with heap := h4, toks := s2.toks + ([] : List (Str × Value)).length } := by rw [← hs3]
  rw [e4] at IB
  have tn4 : tn 0 h4 := T.keep _ _ _ st2 fun b hb o z => up4 b o (up3 b o z)
  have fst : ∀ {H' : Hp}, (∀ b ∈ fp, H' b = none) → ∀ b ∈ fp, FpOk (X.blk scope (own ++ capn) cl s3.heap.objs.size s3 (upd H2 s2.heap.objs.size (.lst [])) fp pins) [] H' b := fun {H'} hn b hb => by
    obtain ⟨o, z⟩ := ob3 b hb
    refine ⟨hn b hb, Nat.ne_of_lt (Heap.lt_size z), fun y => ?_, .inl hb, fun x c ec => (f3 b hb).2.2.2.2.1 x c (hcl x c ec), fun p hp => (f3 b hb).2.2.2.2.2 p (by have y : p ∈ (X.pn ++ pins) ++ [] := hp; simpa using y)⟩
    rcases List.mem_cons.mp (I3.stkSub b y) with y | y
    · exact (f3 b hb).2.1 y
    · exact (f3 b hb).2.2.1 y
  have loop : codeAny (model X.prog X.w) X.A (.compLoop (.ListComp elt [⟨tg, iter, ifs, 0⟩] scope pos) 0 (.ref it) (.ref s2.heap.objs.size) (compEnvC scope cl s3.heap.objs.size X.env))
      (compPost (model X.prog X.w) X.A X.xe none (EP X pins σ Q) (.ref s2.heap.objs.size) s3.heap.objs.size) { s2 with heap := h4, toks := s2.toks + ([] : List (Str × Value)).length } := by
    refine comp_loop (fun n s' => ∃ i σ' acc H', Inv (X.blk scope (own ++ capn) cl s3.heap.objs.size s3 (upd H2 s2.heap.objs.size (.lst [])) fp pins) [] σ' H' s' ∧ tn i s'.heap ∧ (∀ b ∈ fp, H' b = none) ∧ W i n σ' acc H') ?_ m0 ⟨0, _, [], _, IB, tn4, fun b hb => (f3 b hb).1, w0⟩
    rintro n s5 ⟨i, σ5, acc, H5, I5, st5, fr5, w5⟩
    have no : ∀ {α : Type} {t : Sem α} {Q : α → Shared → Prop} {E : Value → Shared → Prop} {s : Shared}, wpAny (model X.prog X.w) X.A t Q (fun _ _ => False) s → wpAny (model X.prog X.w) X.A t Q E s := fun z => wpAny_mono z (fun _ _ y => y) fun _ _ y => y.elim
    rcases turn i n σ5 acc H5 w5 with ⟨stop, qn⟩ | ⟨go, step⟩
    · refine no (thn (T.done (X.blk scope (own ++ capn) cl s3.heap.objs.size s3 (upd H2 s2.heap.objs.size (.lst [])) fp pins) rfl rfl rfl hc i [] s5 σ5 H5 _ I5 (fst fr5) st5 stop) fun r s6 ⟨hr, I6⟩ => ?_)
      subst hr
      obtain ⟨m, hm, _⟩ := id I6.loc
      exact ⟨m, hm, fun h' hs' => ⟨.ref s2.heap.objs.size, H5, blk_end I3 f3 I6 hs', rfl, qn⟩⟩
    · refine no (thn (T.item (X.blk scope (own ++ capn) cl s3.heap.objs.size s3 (upd H2 s2.heap.objs.size (.lst [])) fp pins) rfl rfl rfl hc i [] s5 σ5 H5 _ I5 (fst fr5) st5 go) fun r s6 ⟨u, hr, h6⟩ => ?_)
      subst hr
      refine no (thn h6 fun _ s7 ⟨x, H7, I7, r7, y7, st7, fr7⟩ => ?_)
      have I7' := I7.pinned (fst fr7) (T.obj _ _ st7)
      have kp : ∀ {σ8 : St} {H8 : Hp} {s8 : Shared}, Inv (X.blk scope (own ++ capn) cl s3.heap.objs.size s3 (upd H2 s2.heap.objs.size (.lst [])) fp pins) ([] ++ pinsAt fp s7.heap) σ8 H8 s8 → tn (i + 1) s8.heap ∧ ∀ b ∈ fp, H8 b = none := fun {σ8 H8 s8} I8 => by
        refine ⟨T.keep _ _ _ st7 fun b hb o z => (I8.pin (b, o) (List.mem_append_right _ (List.mem_append_right _ (mem_pinsAt hb z)))).1, fun b hb => ?_⟩
        obtain ⟨o, z, d⟩ := T.obj _ _ st7 b hb
        exact (I8.pin (b, o) (List.mem_append_right _ (List.mem_append_right _ (mem_pinsAt hb z)))).2.1
      refine no (thn (hg cl s3.heap.objs.size s3 _ fp pins _ s7 σ5 H7 x u _ I7' r7 (step x H7 y7)) fun _ s8 ⟨σ8, H8, I8, q8⟩ => ?_)
      refine no (thn (ht cl s3.heap.objs.size s3 _ fp pins _ s8 σ8 H8 _ I8 q8) fun b s9 ⟨H9, I9, q9⟩ => ?_)
      cases b with
      | false =>
        obtain ⟨m', hm, w9⟩ := q9
        exact ⟨m', hm, i + 1, σ8, acc, H9, I9.unpinned, (kp I9).1, (kp I9).2, w9⟩
      | true =>
        refine no (thn (he cl s3.heap.objs.size s3 _ fp pins _ s9 σ8 H9 _ I9 q9) fun y s10 ⟨yv, H10, I10, r10, hD, hz, m', hm, w10⟩ => ?_)
        refine no (thn (mt_append _ s10 σ8 H10 (.ref s2.heap.objs.size) [yv] (.ref s2.heap.objs.size) [y] (fun v H11 => v = .non ∧ H11 = upd H10 s2.heap.objs.size (.lst (acc ++ [yv]))) I10 rfl (.cons r10 .nil) ⟨_, acc, yv, rfl, rfl, hD, hz, rfl, rfl⟩) fun _ s11 ⟨_, H11, I11, _, _, e11⟩ => ?_)
        subst e11
        exact ⟨m', hm, i + 1, σ8, acc ++ [yv], _, I11.unpinned, (kp I11).1, (kp I11).2, w10⟩
  exact codeAny_compStart_list loop (T.self _ 0 _ _ _ tn4 loop)
end
end L2

namespace L2
open PySem PySem.Spec PyProof.Rows




section
variable {X : Cx} {x a : Str} {C fI : Addr} {o value : Expr} {pos pos' : Pos} {ta tv : TE} {mg : Str → Option Value}

end
end L2

set_option maxHeartbeats 1000000
namespace L2
open PySem PySem.Spec PyProof.Rows

section
variable {M : Model} {A : Around} {E : Value → Shared → Prop} {env : Env}
variable {nm q : Str} {C N : Addr} {bs bm : List Value} {hdct : Bool} {sn : List Str} {sub : List Value} {ab : Bool} {col : Option Bool} {dd : Option Addr} {k0 k1 k2 k3 k5 : Option Value} {newId : String}
end

section
variable {P : Program} {w : World} {K : PySem.W.Frag} {mg : Str → Option Value} {base : Heap} {N : List Str} {qual : Str} {scope : Scope} {f : Addr} {cd : Value} {A : Around} {outer : List Env} {s₀ : Shared} {H₀ : Hp} {E : XK}
end

section
variable {X : Cx} {x a : Str} {C fI : Addr} {np cpos pos : Pos} {E : XK} {e₀ : Expr} {rest : List Expr} {t : TA} {k : Nat} {fd : FuncData} {ps : List Str} {sp : Sp}
end
end L2

set_option maxHeartbeats 1000000
/-! dict(a list of pairs) -/
namespace L2
open PySem PySem.Spec PyProof.Rows


end L2

set_option maxHeartbeats 1000000
namespace L2
open PySem PySem.Spec PyProof.Rows
section
variable {prog : Program} {w : World} {K : Type} [DecidableEq K] {knd : KeyKind prog w K} {A : Around}



end
end L2

set_option maxHeartbeats 1000000
namespace L2
open PySem PySem.Spec PyProof.Rows

/-! ### dict(..) -/
section
variable {X : Cx}


/-! ### isinstance(x, T), T a built-in type -/
noncomputable def rIsi (K : PySem.W.Frag) (xs : List V) (H : Hp) (Q : VK) : Prop := ∃ x T t b, xs = [x, .ty T] ∧ TyOf K H x t ∧ PySem.W.kitOne K t (.type T) = some b ∧ Q (.bl b) H
theorem call_isi : CallR X (.builtin "isinstance") (rIsi X.K) := by
  intro pins s σ H xs us Q I r h
  obtain ⟨x, T, t, b, rfl, ty, e, q⟩ := h
  obtain ⟨u, c, rfl, ru, rc⟩ := vals2 r
  obtain rfl : c = Value.type T := rc
  exact isinst_ok I ru ty e fun tk => ⟨.bl b, H, I.tok tk, rfl, q⟩

/-! ### // by a divisor of up to 64 bits -/
noncomputable def CDiv64 (i j : Int) : Prop := 0 < j ∧ j < 2 ^ 64
theorem op_fdiv64 : OpR X (binaryOp .FloorDiv) (rI CDiv64 fun i j => .int (i / j)) := opI fun i j _ _ s Q E hc q => by
  have e : i.fdiv j = i / j := Int.fdiv_eq_ediv_of_nonneg i (Int.le_of_lt hc.1)
  refine floordiv_int (by have := hc.1; omega) (by rw [e]; exact q) (.inl (PyProof.noPylong_of_log2 ?_))
  have h1 : j.natAbs < 2 ^ 64 := by have := hc.2; have := hc.1; omega
  have h2 : j.natAbs.log2 < 64 := (Nat.log2_lt (by have := hc.1; omega)).mpr h1
  omega
end

/-! ### data: a value without anything that may change -/
mutual
inductive Rp (K : PySem.W.Frag) (H : Hp) : V → PyData → Prop
  | non : Rp K H .non .none
  | bl (b : Bool) : Rp K H (.bl b) (.bool b)
  | int (i : Int) : Rp K H (.int i) (.int i)
  | str (x : Str) : Rp K H (.str x) (.str x)
  | tup {a : Addr} {xs : List V} {ds : List PyData} : SqT K H a xs → Rps K H xs ds → Rp K H (.ref a) (.tuple ds)
  | lst {a : Addr} {xs : List V} {ds : List PyData} : SqL K H a xs → Rps K H xs ds → Rp K H (.ref a) (.list ds)
inductive Rps (K : PySem.W.Frag) (H : Hp) : List V → List PyData → Prop
  | nil : Rps K H [] []
  | cons {x : V} {d : PyData} {xs : List V} {ds : List PyData} : Rp K H x d → Rps K H xs ds → Rps K H (x :: xs) (d :: ds)
end
theorem Same.sqT {K : PySem.W.Frag} {H H' : Hp} {a : Addr} {xs : List V} (e : Same H H') (h : SqT K H a xs) : SqT K H' a xs := by
  rcases h with (h | ⟨o, h⟩) | h
  · exact .inl (.inl (e _ _ h))
  · exact .inl (.inr ⟨o, e _ _ h⟩)
  · exact .inr h
mutual
theorem Rp.same {K : PySem.W.Frag} {H H' : Hp} (s : Same H H') : ∀ {v : V} {d : PyData}, Rp K H v d → Rp K H' v d
  | _, _, .non => .non
  | _, _, .bl b => .bl b
  | _, _, .int i => .int i
  | _, _, .str x => .str x
  | _, _, .tup h r => .tup (s.sqT h) (Rps.same s r)
  | _, _, .lst h r => .lst (s.seq h) (Rps.same s r)
theorem Rps.same {K : PySem.W.Frag} {H H' : Hp} (s : Same H H') : ∀ {v : List V} {d : List PyData}, Rps K H v d → Rps K H' v d
  | _, _, .nil => .nil
  | _, _, .cons h r => .cons (Rp.same s h) (Rps.same s r)
end
section
variable {X : Cx} {pins : List (Addr × Obj)} {σ : St} {H : Hp} {s : Shared}
mutual
theorem Rp.reads (I : Inv X pins σ H s) : ∀ {v : V} {d : PyData} {u : Value}, Rp X.K H v d → RelV v u → ∃ as, Reads s.heap u d as
  | _, _, _, .non, r => by cases (show _ = Value.none from r); exact ⟨_, Reads.none⟩
  | _, _, _, .bl b, r => by cases (show _ = Value.bool b from r); exact ⟨_, Reads.bool b⟩
  | _, _, _, .int i, r => by obtain ⟨t, rfl⟩ := r; exact ⟨_, Reads.int i t⟩
  | _, _, _, .str x, r => by obtain ⟨t, rfl⟩ := r; exact ⟨_, Reads.str x t⟩
  | _, _, _, .tup h q, r => by
    cases (show _ = Value.ref _ from r)
    obtain ⟨its, rv, ⟨o, e, c, n, d⟩, _⟩ := I.tuple h
    obtain ⟨as, z⟩ := Rps.reads I q rv
    exact ⟨as, reads_tuple_at e c d (by simpa using z)⟩
  | _, _, _, .lst h q, r => by
    cases (show _ = Value.ref _ from r)
    obtain ⟨its, rv, ⟨o, n, e, c, _, d⟩, _⟩ := I.list h
    obtain ⟨as, z⟩ := Rps.reads I q rv
    exact ⟨_, reads_list_at e c d (by simpa using z)⟩
theorem Rps.reads (I : Inv X pins σ H s) : ∀ {v : List V} {d : List PyData} {u : List Value}, Rps X.K H v d → Vals v u → ∃ as, ReadsAll s.heap u d as
  | _, _, _, .nil, .nil => ⟨_, ReadsAll.nil⟩
  | _, _, _, .cons h q, .cons r t => by
    obtain ⟨as, a⟩ := Rp.reads I h r
    obtain ⟨bs, b⟩ := Rps.reads I q t
    exact ⟨_, ReadsAll.cons a b⟩
end
/-- == and != of data -/
noncomputable def rEqD (K : PySem.W.Frag) (neg : Bool) : R2 := fun x y H Q => ∃ d e, Rp K H x d ∧ Rp K H y e ∧ SeqAt.shaped d = true ∧ SeqAt.shaped e = true ∧ Q (.bl (if neg then !PyData.eqv d e else PyData.eqv d e)) H
theorem op_eqD (hu : X.A.units + 64 < cLine) : OpR X (compareOp .Eq) (rEqD X.K false) := by
  intro pins s σ H x y v u Q I rx ry h
  obtain ⟨d, e, hd, he, sd, se, q⟩ := h
  obtain ⟨as, ra⟩ := hd.reads I rx
  obtain ⟨bs, rb⟩ := he.reads I ry
  exact eq_dataH ra rb sd se hu ⟨.bl _, H, I, rfl, q⟩
theorem op_neD (hu : X.A.units + 64 < cLine) : OpR X (compareOp .NotEq) (rEqD X.K true) := by
  intro pins s σ H x y v u Q I rx ry h
  obtain ⟨d, e, hd, he, sd, se, q⟩ := h
  obtain ⟨as, ra⟩ := hd.reads I rx
  obtain ⟨bs, rb⟩ := he.reads I ry
  exact ne_dataH ra rb sd se hu ⟨.bl _, H, I, rfl, q⟩
end

/-! ### defs, methods, classes in one word each -/
structure Fn (P : Program) (w : World) (K : PySem.W.Frag) (mg : Str → Option Value) (base : Heap) (x : Str) (k : Nat) (ps : List Str) (sp : Sp) : Prop where
  ex : ∃ f fd, FnOk P w K mg base (CX1 P w) k f fd ps sp ∧ mg x = some (.ref f) ∧ PySem.W.keepIn K (.ref f) = true ∧ Binds K fd ps []
section
variable {X : Cx} {k : Nat} {C : Addr} {ps : List Str} {sp : Sp} {E : XK} {x m : Str} {p pos apos : Pos} {e o : Expr} {es : List Expr} {ta : TE} {t : TA}
theorem pf_call (F : Fn X.prog X.w X.K X.mg X.base x k ps sp) (hr : Room k X.A) (hg : Gl X x) (hx : Passes (CX1 X.prog X.w) X E) (ha : PA X (e :: es) t) (hdb : (x == ("__debug__" : Str)) = false := by decide)
    (he : starEach (e :: es) X.env = (false, eval e X.env) :: starEach es X.env := by rfl) (hpl : (backTo pos (starEach es X.env)).any (·.1) = false := by rfl) : PE X (.Call (.Name x p) (e :: es) [] pos) (tCall sp [] E t) := by
  obtain ⟨f, fd, ok, mgf, kp, bi⟩ := F.ex
  exact pe_call ok hr hg mgf kp bi .nil hx ha hdb he hpl
end
end L2

namespace L2
open PySem PySem.Spec PyProof.Rows
/-! ### arguments: the head's form is looked at, not what stands in it -/
section
variable {X : Cx} {es : List Expr} {env : Env}
end
end L2

namespace L2
open PySem PySem.Spec PyProof.Rows
section
variable {X : Cx} {elt iter tg : Expr} {ifs : List Expr} {scope : Scope} {pos : Pos} {own capn : List Str} {capI : List Nat} {wi : TI} {g : TG} {tt : TT} {te : TE}
/-- y = [elt for target in iter if ..] on one line: the store comes ahead of the block's end -/
theorem ps_setC {i : Nat} {y : Str} {py spos : Pos} (hN : X.N.Nodup) (hi : X.N[i]? = some y) (hy : Loc X.env.scope y) (hex : X.ex = []) (hc : X.calm = true) (B : BlkScope X scope own capn capI) (hit : PI X tg iter wi) (hg : ∀ cl C s H fp pins, PG (X.blk scope (own ++ capn) cl C s H fp pins) tg g)
    (ht : ∀ cl C s H fp pins, PIfs (X.blk scope (own ++ capn) cl C s H fp pins) ifs tt) (he : ∀ cl C s H fp pins, PE (X.blk scope (own ++ capn) cl C s H fp pins) elt te)
    (hs : ∀ x, foldedSetIterable iter X.env x = pure x := by intro _; rfl) (hsw : swapsWith (.ListComp elt [⟨tg, iter, ifs, 0⟩] scope pos) (some (.Name y py)) spos.line X.env = pure true := by rfl)
    (hf : X.fn y = true ∨ X.env.scope.names.lookup y = some .local := by first | exact .inl rfl | exact .inr rfl | assumption) :
    PS X (.Assign [.Name y py] (.ListComp elt [⟨tg, iter, ifs, 0⟩] scope pos) spos) (tAsg (tLC wi own.length capI g tt te) (gName i)) := by
  intro pins s σ H D0 I h
  rw [exec_Assign_Name_used _ _ _ _ hsw]
  refine wpAny_bind (wpAny_standAt (wpAny_bind ?_))
  show wpAny _ X.A (do let _ ← comprehension (.ListComp elt [⟨tg, iter, ifs, 0⟩] scope pos) scope X.env _ (newList []) false (eval iter X.env) (some (assign (.Name y py) X.env))) _ _ s
  obtain ⟨cl, hclos, hcl, hcf⟩ := closure_of (env := X.env) (scope := scope) (fun y hy hf => I.ok.has y.1 (.inl (B.free y hy hf)))
  refine wpAny_bind (wpAny_mono (wpAny_comprehension_free (use := some (assign (.Name y py) X.env)) (Q := fun _ s' => SP X pins D0 .next s') rfl hs hclos B.kind B.names (thn (hit pins s σ H _ I h) fun v s1 h1 => thn h1 fun itv s2 h2 => ?_)) (fun _ s' hq => wpAny_pure (wpAny_pure hq)) fun _ _ e => e)
  obtain ⟨it, fp, tn, J, H2, e, I2, T, st2, f2, hW⟩ := h2
  subst e
  obtain ⟨W, ⟨m0, w0⟩, turn⟩ := hW s2.heap.objs.size (I2.hok.fresh (Nat.le_refl _))
  refine wpAny_newObj_type (wpAny_newFunctionEnv B.cell (by intro y hy; simp at hy) (fun h4 hns hsb => ?_) B.kind)
  dsimp only at hns hsb ⊢
  have I3 : Inv X pins σ (upd H2 s2.heap.objs.size (.lst [])) { s2 with heap := s2.heap.push { cls := .type "list", dict := none, data := .seq ([] : List Value).toArray } } :=
    I2.laid (t' := s2.toks) (fun b u e => Heap.get?_push_of_some _ e) (Nat.le_refl _) ⟨Nat.zero_le _, [], 0, .nil, Heap.get?_push_size _ rfl⟩
  generalize hs3 : ({ s2 with heap := s2.heap.push { cls := .type "list", dict := none, data := .seq ([] : List Value).toArray } } : Shared) = s3 at I3
  have e3 : s2.heap.push { cls := .type "list", dict := none, data := .seq ([] : List Value).toArray } = s3.heap := by rw [← hs3]
  have ob2 : ∀ b ∈ fp, ∃ o, s2.heap.get? b = some o := fun b hb => let ⟨o, z, _⟩ := T.obj _ _ st2 b hb; ⟨o, z⟩
  have up3 : ∀ b o, s2.heap.get? b = some o → s3.heap.get? b = some o := fun b o z => by
    rw [← e3]
    exact Heap.get?_push_of_some _ z
  have f3 : ∀ b ∈ fp, FpOk X pins (upd H2 s2.heap.objs.size (.lst [])) b := fun b hb => by
    obtain ⟨o, z⟩ := ob2 b hb
    exact ⟨by rw [upd_ne (Nat.ne_of_lt (Heap.lt_size z))]; exact (f2 b hb).1, (f2 b hb).2⟩
  have ob3 : ∀ b ∈ fp, ∃ o, s3.heap.get? b = some o := fun b hb => let ⟨o, z⟩ := ob2 b hb; ⟨o, up3 b o z⟩
  rw [e3] at hns hsb ⊢
  have up4 : ∀ b o, s3.heap.get? b = some o → h4.get? b = some o := fun b o z => (hsb.2 b (Nat.ne_of_lt (Heap.lt_size z))).trans (Heap.get?_push_of_some _ z)
  have IB := blk_start (t' := s2.toks + ([] : List (Str × Value)).length) B I3 f3 ob3 hcl hcf hns up4
  have e4 : ({ s3 with heap := h4, toks := s2.toks + ([] : List (Str × Value)).length } : Shared) = { s2 with heap := h4, toks := s2.toks + ([] : List (Str × Value)).length } := by rw [← hs3]
  rw [e4] at IB
  have tn4 : tn 0 h4 := T.keep _ _ _ st2 fun b hb o z => up4 b o (up3 b o z)
  have fst : ∀ {H' : Hp}, (∀ b ∈ fp, H' b = none) → ∀ b ∈ fp, FpOk (X.blk scope (own ++ capn) cl s3.heap.objs.size s3 (upd H2 s2.heap.objs.size (.lst [])) fp pins) [] H' b := fun {H'} hn b hb => by
    obtain ⟨o, z⟩ := ob3 b hb
    refine ⟨hn b hb, Nat.ne_of_lt (Heap.lt_size z), fun y => ?_, .inl hb, fun x c ec => (f3 b hb).2.2.2.2.1 x c (hcl x c ec), fun p hp => (f3 b hb).2.2.2.2.2 p (by have y : p ∈ (X.pn ++ pins) ++ [] := hp; simpa using y)⟩
    rcases List.mem_cons.mp (I3.stkSub b y) with y | y
    · exact (f3 b hb).2.1 y
    · exact (f3 b hb).2.2.1 y
  have loop : codeAny (model X.prog X.w) X.A (.compLoop (.ListComp elt [⟨tg, iter, ifs, 0⟩] scope pos) 0 (.ref it) (.ref s2.heap.objs.size) (compEnvC scope cl s3.heap.objs.size X.env))
      (compPost (model X.prog X.w) X.A X.xe (some (assign (.Name y py) X.env)) (fun _ s' => SP X pins D0 .next s') (.ref s2.heap.objs.size) s3.heap.objs.size) { s2 with heap := h4, toks := s2.toks + ([] : List (Str × Value)).length } := by
    refine comp_loop (fun n s' => ∃ i σ' acc H', Inv (X.blk scope (own ++ capn) cl s3.heap.objs.size s3 (upd H2 s2.heap.objs.size (.lst [])) fp pins) [] σ' H' s' ∧ tn i s'.heap ∧ (∀ b ∈ fp, H' b = none) ∧ W i n σ' acc H') ?_ m0 ⟨0, _, [], _, IB, tn4, fun b hb => (f3 b hb).1, w0⟩
    rintro n s5 ⟨i, σ5, acc, H5, I5, st5, fr5, w5⟩
    have no : ∀ {α : Type} {t : Sem α} {Q : α → Shared → Prop} {E : Value → Shared → Prop} {s : Shared}, wpAny (model X.prog X.w) X.A t Q (fun _ _ => False) s → wpAny (model X.prog X.w) X.A t Q E s := fun z => wpAny_mono z (fun _ _ y => y) fun _ _ y => y.elim
    rcases turn i n σ5 acc H5 w5 with ⟨stop, qn⟩ | ⟨go, step⟩
    · refine no (thn (T.done (X.blk scope (own ++ capn) cl s3.heap.objs.size s3 (upd H2 s2.heap.objs.size (.lst [])) fp pins) rfl rfl rfl hc i [] s5 σ5 H5 _ I5 (fst fr5) st5 stop) fun r s6 ⟨hr, I6⟩ => ?_)
      subst hr
      obtain ⟨m, hm, _⟩ := id I6.loc
      have IX : Inv X pins σ H5 s6 := blk_end I3 f3 I6 (Heap.SameBut.refl _ _)
      have fC : ∀ b ∈ [s3.heap.objs.size], FpOk X pins H5 b := fun b hb => by
        obtain rfl : b = s3.heap.objs.size := by simpa using hb
        exact I3.fpOk (Nat.le_refl _) I6.free
      obtain ⟨oC, esC, epC, hoC, hdC, hrC⟩ := id hm
      have Ip := IX.pinned fC (fun b hb => by
        obtain rfl : b = s3.heap.objs.size := by simpa using hb
        exact ⟨oC, hoC, fun v z => by rw [hdC] at z; cases z⟩)
      have apC := I3.apart hex (Heap.get?_none_of_le (Nat.le_refl s3.heap.objs.size))
      have nfC := I3.nofs (Nat.le_refl s3.heap.objs.size)
      show wpAny _ X.A (assign (.Name y py) X.env (.ref s2.heap.objs.size)) _ _ _
      refine wpAny_assign_Name (store_ok Ip hN hi hy (v := .ref s2.heap.objs.size) rfl (fun s7 I7 => ?_) hf)
      have hC7 : s7.heap.get? s3.heap.objs.size = some oC := (I7.pin (s3.heap.objs.size, oC) (List.mem_append_right _ (List.mem_append_right _ (mem_pinsAt (by simp) hoC)))).1
      refine ⟨m, ⟨oC, esC, epC, hC7, hdC, hrC⟩, fun h' hs' => ⟨_, H5, ?_, qn⟩⟩
      exact I7.unpinned.recd apC I6.free nfC fun b o hb z => (hs'.2 b hb).trans z
    · refine no (thn (T.item (X.blk scope (own ++ capn) cl s3.heap.objs.size s3 (upd H2 s2.heap.objs.size (.lst [])) fp pins) rfl rfl rfl hc i [] s5 σ5 H5 _ I5 (fst fr5) st5 go) fun r s6 ⟨u, hr, h6⟩ => ?_)
      subst hr
      refine no (thn h6 fun _ s7 ⟨x, H7, I7, r7, y7, st7, fr7⟩ => ?_)
      have I7' := I7.pinned (fst fr7) (T.obj _ _ st7)
      have kp : ∀ {σ8 : St} {H8 : Hp} {s8 : Shared}, Inv (X.blk scope (own ++ capn) cl s3.heap.objs.size s3 (upd H2 s2.heap.objs.size (.lst [])) fp pins) ([] ++ pinsAt fp s7.heap) σ8 H8 s8 → tn (i + 1) s8.heap ∧ ∀ b ∈ fp, H8 b = none := fun {σ8 H8 s8} I8 => by
        refine ⟨T.keep _ _ _ st7 fun b hb o z => (I8.pin (b, o) (List.mem_append_right _ (List.mem_append_right _ (mem_pinsAt hb z)))).1, fun b hb => ?_⟩
        obtain ⟨o, z, d⟩ := T.obj _ _ st7 b hb
        exact (I8.pin (b, o) (List.mem_append_right _ (List.mem_append_right _ (mem_pinsAt hb z)))).2.1
      refine no (thn (hg cl s3.heap.objs.size s3 _ fp pins _ s7 σ5 H7 x u _ I7' r7 (step x H7 y7)) fun _ s8 ⟨σ8, H8, I8, q8⟩ => ?_)
      refine no (thn (ht cl s3.heap.objs.size s3 _ fp pins _ s8 σ8 H8 _ I8 q8) fun b s9 ⟨H9, I9, q9⟩ => ?_)
      cases b with
      | false =>
        obtain ⟨m', hm, w9⟩ := q9
        exact ⟨m', hm, i + 1, σ8, acc, H9, I9.unpinned, (kp I9).1, (kp I9).2, w9⟩
      | true =>
        refine no (thn (he cl s3.heap.objs.size s3 _ fp pins _ s9 σ8 H9 _ I9 q9) fun y s10 ⟨yv, H10, I10, r10, hD, hz, m', hm, w10⟩ => ?_)
        refine no (thn (mt_append _ s10 σ8 H10 (.ref s2.heap.objs.size) [yv] (.ref s2.heap.objs.size) [y] (fun v H11 => v = .non ∧ H11 = upd H10 s2.heap.objs.size (.lst (acc ++ [yv]))) I10 rfl (.cons r10 .nil) ⟨_, acc, yv, rfl, rfl, hD, hz, rfl, rfl⟩) fun _ s11 ⟨_, H11, I11, _, _, e11⟩ => ?_)
        subst e11
        exact ⟨m', hm, i + 1, σ8, acc ++ [yv], _, I11.unpinned, (kp I11).1, (kp I11).2, w10⟩
  exact codeAny_compStart_list loop (T.self _ 0 _ _ _ tn4 loop)
end
end L2

namespace L2
open PySem PySem.Spec PyProof.Rows
section
variable {X : Cx}
end
end L2

set_option maxHeartbeats 1000000
namespace L2
open PySem PySem.Spec PyProof.Rows
section
variable {prog : Program} {w : World} {A : Around} {E : Value → Shared → Prop} {s : Shared}
end
section
variable {prog : Program} {w : World} {K : Type} [DecidableEq K] {knd : KeyKind prog w K} {A : Around}
end
end L2

set_option maxHeartbeats 1000000
namespace L2
open PySem PySem.Spec PyProof.Rows
section
variable {prog : Program} {w : World} {K : Type} [DecidableEq K] {knd : KeyKind prog w K} {A : Around}
end
end L2

set_option maxHeartbeats 1000000
namespace L2
open PySem PySem.Spec PyProof.Rows
section
variable {X : Cx}
end
end L2

set_option maxHeartbeats 1000000
namespace L2
open PySem PySem.Spec PyProof.Rows
section
variable {X : Cx} {e st : Expr} {te : TE} {lo hi : Option Expr} {tl th ts : TO} {pos p2 : Pos}
/-- the items of xs[lo:hi:st] -/
noncomputable def pickV (xs : List V) (lo hi st : Option Int) : List V := (sliceRange (sliceBounds lo hi st xs.length).1 (sliceBounds lo hi st xs.length).2.1 (sliceBounds lo hi st xs.length).2.2).filterMap (xs[·]?)
theorem vals_pick {xs : List V} {its : List Value} (r : Vals xs its) : ∀ is : List Nat, Vals (is.filterMap (xs[·]?)) (is.filterMap (its[·]?))
  | [] => .nil
  | i :: is => by
    cases h : xs[i]? with
    | none =>
      have h2 : its[i]? = none := by
        rw [List.getElem?_eq_none_iff] at h ⊢
        rw [← r.length]
        exact h
      rw [List.filterMap_cons_none h, List.filterMap_cons_none h2]
      exact vals_pick r is
    | some x =>
      obtain ⟨v, h2, rv⟩ := r.get (i := i) (x := x) h
      rw [List.filterMap_cons_some h, List.filterMap_cons_some h2]
      exact .cons rv (vals_pick r is)
noncomputable def tSl3 (K : PySem.W.Frag) (te : TE) (tl th ts : TO) : TE := fun σ H Q => te σ H fun x H1 => tl σ H1 fun l H2 => th σ H2 fun u H3 => ts σ H3 fun k H4 =>
  ∃ a xs, x = .ref a ∧ SqL K H4 a xs ∧ k ≠ some 0 ∧ ((pickV xs l u k).length ≤ xs.length → ∀ p, H4 p = none → Q (.ref p) (upd H4 p (.lst (pickV xs l u k))))
/-- a[lo:hi:st] of a list -/
theorem pe_slice3 (he : PE X e te) (hl : PO X lo tl) (hu : PO X hi th) (hk : PO X (some st) ts) : PE X (.Subscript e (.Slice lo hi (some st) p2) pos) (tSl3 X.K te tl th ts) := by
  intro pins s σ H Q I h
  refine Subscript_ (thn (he pins s σ H _ I h) fun v s1 ⟨x, H1, I1, r1, q1⟩ => ?_)
  refine wpAny_Slice (thn (hl pins s1 σ H1 _ I1 q1) fun vl s2 ⟨l, H2, I2, pl, q2⟩ => thn (hu pins s2 σ H2 _ I2 q2) fun vu s3 ⟨u, H3, I3, pu, q3⟩ => thn (hk pins s3 σ H3 _ I3 q3) fun vk s4 ⟨k, H4, I4', pk, q4⟩ => ?_)
  obtain ⟨a, xs, rfl, hx, k0, q⟩ := q4
  obtain rfl : v = Value.ref a := r1
  have I5 : Inv X pins σ H4 { s4 with heap := s4.heap.push { cls := .type "slice", data := .fields #[vl, vu, vk] } } := I4'.kept (t' := s4.toks) fun b ob q => Heap.get?_push_of_some _ q
  obtain ⟨its, r, ht, hz⟩ := I5.list hx
  have hlen := r.length
  have hps : Vals (pickV xs l u k) (slicePick its.toArray l u k).toList := by
    unfold slicePick pickV
    rw [List.size_toArray, ← hlen]
    simpa using vals_pick r _
  have hpl : (pickV xs l u k).length ≤ xs.length := by
    have := slicePick_size_le its.toArray l u k
    rw [List.size_toArray, ← Array.length_toList, ← hps.length, ← hlen] at this
    exact this
  show wpAny (model X.prog X.w) X.A (subscriptTail e (.Slice lo hi (some st) p2) (.ref a) (.ref s4.heap.objs.size)) (EP X pins σ Q) X.xe { s4 with heap := s4.heap.push { cls := .type "slice", data := .fields #[vl, vu, vk] } }
  refine tail_any (ops := [.ref a, .ref s4.heap.objs.size]) ht.isList.typeIs slot_list_getitem.lookup ?_ (by with_unfolding_all rfl)
  refine wpAny_getItem_list_slice ht.isList (Heap.IsSliceOf.new ..) pl pu pk k0 ?_ (by rw [List.size_toArray] <;> omega)
  refine ⟨.ref _, _, I5.laid (t' := s4.toks) (o := .lst (pickV xs l u k)) (fun b ob q => Heap.get?_push_of_some _ q) (Nat.le_refl _) ?_, rfl, q hpl _ (I5.hok.fresh (Nat.le_refl _))⟩
  refine ⟨Nat.le_trans hpl hz, (slicePick its.toArray l u k).toList, 0, hps, ?_⟩
  rw [Array.toArray_toList]
  exact Heap.get?_push_size _ rfl
/-- asked of a range, within a comprehension -/
theorem rg_ask {lo : Int} {n i : Nat} {H : Hp} {A : Prop} {B : V → Hp → Prop} (hi : i ≤ n) (hs : i < n → B (.int (lo + i)) H) (hd : i = n → A) :
    ((Itr lo n).stop i H ∧ A) ∨ ((Itr lo n).go i H ∧ ∀ x H', (Itr lo n).yld i H x H' → B x H') := by
  by_cases hlt : i < n
  · refine .inr ⟨hlt, fun x H' y => ?_⟩
    obtain ⟨rfl, rfl⟩ := y
    exact hs hlt
  · exact .inl ⟨by show n ≤ i; omega, hd (by omega)⟩
theorem ints_items : ∀ {ns : List Int} {its : List Value}, Vals (ns.map V.int) its → ∃ xs : List (Int × Tok), its = xs.map fun p => Value.int p.1 p.2
  | [], its, h => by cases h; exact ⟨[], rfl⟩
  | n :: ns, its, h => by
    cases h with
    | cons a b =>
      obtain ⟨t, rfl⟩ := a
      obtain ⟨xs, rfl⟩ := ints_items b
      exact ⟨(n, t) :: xs, rfl⟩
/-- sum(xs) of whole numbers: some number -/
noncomputable def rSumW (K : PySem.W.Frag) (xs : List V) (H : Hp) (Q : VK) : Prop := ∃ (l : Addr) (ns : List Int), xs = [.ref l] ∧ SqL K H l (ns.map V.int) ∧ ∀ z : Int, Q (.int z) H
theorem call_sumW (hc : X.calm = true) : CallR X (.builtin "sum") (rSumW X.K) := by
  intro pins s σ H xs us Q I r h
  obtain ⟨l, ns, rfl, hl, q⟩ := h
  obtain ⟨u, rfl, ru⟩ := vals1 r
  obtain rfl : u = Value.ref l := ru
  obtain ⟨its, v, P1, z1⟩ := I.list hl
  obtain ⟨ys, rfl⟩ := ints_items v
  have hl' : s.heap.IsList l (intItems ys.toArray) := by
    have := P1.isList
    rw [show (ys.map fun p => Value.int p.1 p.2).toArray = intItems ys.toArray by unfold intItems; simp] at this
    exact this
  exact sum_intListG (I.ok.hd hc) hl' fun h' tk t' hk => ⟨.int _, H, I.kept (t' := tk) hk, ⟨t', rfl⟩, q _⟩
end
end L2

set_option maxHeartbeats 1000000
namespace L2
open PySem PySem.Spec PyProof.Rows
section
variable {X : Cx} {pins : List (Addr × Obj)} {σ : List (Option V)} {H H' : Hp} {s : Shared} {h' : Heap}
/-- records of ours have turned -/
theorem Inv.turnedL {t' : Nat} {wr : List Addr} (I : Inv X pins σ H s) (k : ∀ b o, b ∉ wr → s.heap.get? b = some o → h'.get? b = some o) (hf : ∀ b ∈ wr, FpOk X pins H b) : Inv X pins σ H { s with heap := h', toks := t' } := by
  have nit : ∀ b u, H b = some u → b ∉ wr := fun b u e z => by rw [(hf b z).1] at e; cases e
  refine I.step (g' := s.gens) (d' := s.drawn) (ch := wr) (fun b hb => ⟨(hf b hb).2.2.2.1, (hf b hb).2.1, (hf b hb).2.2.2.2.1, (hf b hb).2.2.2.2.2⟩) (fun b o _ _ hc e _ => k b o hc e) (fun b o _ _ hc e _ => ⟨o.slots, k b o hc e⟩) (fun _ _ _ _ n => n)
    (fun b o hc e => ⟨o, k b o hc e⟩) (fun _ _ e => e) (fun _ _ _ e => e) (fun b ps e => ⟨#[], by rw [e]; simp⟩) (fun m hm => ?_) (fun b u e => ?_) I.bare
  · obtain ⟨o, es, ep, ho, r⟩ := hm
    exact ⟨o, es, ep, k _ o (fun z => (hf _ z).2.1 rfl) ho, r⟩
  · refine (I.hok b u e).stay (fun c v hc q => k c v ?_ q) (fun _ q => q) fun _ _ q => q
    rcases hc with z | z
    · rw [z]; exact nit b u e
    · exact nit c _ z
/-- .. and a tuple was laid -/
theorem Inv.turnedT {t' : Nat} {wr : List Addr} {T : Addr} {xs : List V} {its : List Value} (I : Inv X pins σ H s) (k : ∀ b o, b ∉ wr → s.heap.get? b = some o → h'.get? b = some o) (hf : ∀ b ∈ wr, FpOk X pins H b)
    (hT : s.heap.objs.size ≤ T) (hw : T ∉ wr) (rv : Vals xs its) (hl : xs.length ≤ sizeLine) (ht : IsTup h' T its.toArray) : Inv X pins σ (upd H T (.tup xs)) { s with heap := h', toks := t' } := by
  have hn : H T = none := I.hok.fresh hT
  have neT : ∀ b o, s.heap.get? b = some o → b ≠ T := fun b o e => Nat.ne_of_lt (Nat.lt_of_lt_of_le (Heap.lt_size e) hT)
  have nit : ∀ b u, H b = some u → b ∉ wr := fun b u e z => by rw [(hf b z).1] at e; cases e
  refine I.step (g' := s.gens) (d' := s.drawn) (ch := wr) (fun b hb => ⟨(hf b hb).2.2.2.1, (hf b hb).2.1, (hf b hb).2.2.2.2.1, (hf b hb).2.2.2.2.2⟩) (fun b o _ _ hc e _ => k b o hc e) (fun b o _ _ hc e _ => ⟨o.slots, k b o hc e⟩) (fun b o _ e n => by rw [upd_ne (neT b o e)]; exact n)
    (fun b o hc e => ⟨o, k b o hc e⟩) (fun b xs e => by rw [upd_ne (ne_of_none e hn)]; exact e) (fun b _ _ e => by rw [upd_ne (ne_of_none e hn)]; exact e) (fun b ps e => ⟨#[], by rw [upd_ne (ne_of_none e hn), e]; simp⟩) (fun m hm => ?_) (fun b u e => ?_) I.bare
  · obtain ⟨o, es, ep, ho, r⟩ := hm
    exact ⟨o, es, ep, k _ o (fun z => (hf _ z).2.1 rfl) ho, r⟩
  · by_cases hb : b = T
    · subst hb
      rw [upd_same] at e
      cases e
      exact ⟨hl, its, rv, ht⟩
    · rw [upd_ne hb] at e
      refine (I.hok b u e).stay (fun c v hc q => k c v ?_ q) (fun c q => ?_) fun c _ q => ?_
      · rcases hc with z | z
        · rw [z]; exact nit b u e
        · exact nit c _ z
      · rw [upd_ne (ne_of_none q hn)]; exact q
      · rw [upd_ne (ne_of_none q hn)]; exact q
end
/-- a turn of an iterator that hands out a new tuple, to a target that is a tuple -/
theorem turn_pair {X : Cx} {pins : List (Addr × Obj)} {σ : St} {H : Hp} {s : Shared} {E : Value → Shared → Prop} {z : Addr} {fpw wr : List Addr} {n i : Nat} {Pt : Nat → Array Value → Prop} {St' : Nat → Heap → Prop} {Mid : Nat → Addr → Heap → Prop}
    {elts : List Expr} {kk : Nat} {pos : Pos} {Yl : V → Hp → Prop} {Tn : Heap → Prop} {fp : List Addr}
    (W : WalksT X.prog X.w X.A z fpw wr n Pt St' Mid) (I : Inv X pins σ H s) (hf : ∀ b ∈ fp, FpOk X pins H b) (hfp : ∀ b ∈ fp, ∃ o, s.heap.get? b = some o) (hwr : ∀ b ∈ wr, b ∈ fp) (hi : i < n) (st : St' i s.heap) (hn : ∀ h, St' (i + 1) h → Tn h)
    (hv : ∀ vals, Pt i vals → ∃ xs : List V, Vals xs vals.toList ∧ xs.length ≤ sizeLine ∧ ∀ T, H T = none → Yl (.ref T) (upd H T (.tup xs))) :
    wpAny (model X.prog X.w) X.A (pyNext (.ref z)) (fun r s1 => ∃ u, r = some u ∧
      wpAny (model X.prog X.w) X.A (letOwnedTupleGo (.Tuple elts kk pos) (.ref z) u) (fun _ s2 => ∃ x H', Inv X pins σ H' s2 ∧ RelV x u ∧ Yl x H' ∧ Tn s2.heap ∧ ∀ b ∈ fp, H' b = none) E s1) E s := by
  refine W.item i s _ E hi st fun T vals h' tk hp hT ht hm hk => ⟨_, rfl, ?_⟩
  obtain ⟨xs, rv, hl, hy⟩ := hv vals hp
  have hTw : T ∉ wr := W.apart i T h' hm
  have hTn : H T = none := I.hok.fresh hT
  have hwf : ∀ b ∈ wr, FpOk X pins H b := fun b hb => hf b (hwr b hb)
  have ht' : IsTup h' T vals.toList.toArray := by
    rw [Array.toArray_toList]
    exact ht
  have I1 : Inv X pins σ (upd H T (.tup xs)) { s with heap := h', toks := tk } := I.turnedT hk hwf hT hTw rv hl ht'
  have neT : ∀ b ∈ fp, b ≠ T := fun b hb e => by
    subst e
    obtain ⟨o, q⟩ := hfp b hb
    exact absurd (Nat.lt_of_lt_of_le (Heap.lt_size q) hT) (Nat.lt_irrefl _)
  have hw2 : ∀ b ∈ wr, FpOk X pins (upd H T (.tup xs)) b := fun b hb => ⟨by rw [upd_ne (neT b (hwr b hb))]; exact (hwf b hb).1, (hwf b hb).2⟩
  refine W.go elts kk pos i T _ _ _ hm fun h2 st2 hk2 => ?_
  have I2 := I1.turnedL (t' := tk) (h' := h2) hk2 hw2
  exact ⟨.ref T, _, I2, rfl, hy T hTn, hn _ st2, fun b hb => by rw [upd_ne (neT b hb)]; exact (hf b hb).1⟩
theorem turn_pair_end {X : Cx} {pins : List (Addr × Obj)} {σ : St} {H : Hp} {s : Shared} {E : Value → Shared → Prop} {z : Addr} {fpw wr : List Addr} {n : Nat} {Pt : Nat → Array Value → Prop} {St' : Nat → Heap → Prop} {Mid : Nat → Addr → Heap → Prop}
    (W : WalksT X.prog X.w X.A z fpw wr n Pt St' Mid) (I : Inv X pins σ H s) (hf : ∀ b ∈ wr, FpOk X pins H b) (st : St' n s.heap) :
    wpAny (model X.prog X.w) X.A (pyNext (.ref z)) (fun r s1 => r = none ∧ Inv X pins σ H s1) E s :=
  W.done s _ E st fun h' tk hk => ⟨rfl, I.turnedL hk hf⟩

/-- enumerate of the list at a -/
noncomputable def Ite (K : PySem.W.Frag) (a : Addr) : It :=
  ⟨fun i H => ∃ xs x, SqL K H a xs ∧ xs[i]? = some x, fun i H v H' => ∃ T, v = .ref T ∧ H T = none ∧ ∀ xs x, SqL K H a xs → xs[i]? = some x → H' = upd H T (.tup [.int i, x]), fun i H => ∃ xs, SqL K H a xs ∧ xs.length = i⟩
theorem vals_two {x y : V} {u v : Value} (h1 : RelV x u) (h2 : RelV y v) : Vals [x, y] [u, v] := .cons h1 (.cons h2 .nil)
theorem turn_enum {P : Program} {w : World} {K : PySem.W.Frag} {elts : List Expr} {kk : Nat} {pos : Pos} (e it a : Addr) (hei : e ≠ it) (hae : a ≠ e) (hai : a ≠ it) :
    Turn P w K (.Tuple elts kk pos) (Ite K a) [e, it] e (fun i h => (∃ old, IsEnum h e it i old) ∧ h.IsListIter it a i) where
  mem := by simp
  obj := fun i h st b hb => by
    obtain ⟨⟨old, h1⟩, o, h2, c, d⟩ := st
    rcases List.mem_cons.mp hb with rfl | hb
    · exact ⟨_, h1, fun v z => by
        have z' : Data.fields _ = Data.cell v := z
        cases z'⟩
    · have e' : b = it := by simpa using hb
      subst e'
      exact ⟨o, h2, fun v z => by rw [d] at z; cases z⟩
  keep := fun i h h' st k => by
    obtain ⟨⟨old, h1⟩, h2⟩ := st
    exact ⟨⟨old, k e (by simp) _ h1⟩, h2.at fun o q => k it (by simp) o q⟩
  item := by
    intro X hP hw hK hc i pins s σ H E I hf st hg
    subst hP hw hK
    obtain ⟨xs, x, hq, hx⟩ := hg
    obtain ⟨its, rv, p, hz⟩ := I.list hq
    obtain ⟨u, hu, ru⟩ := rv.get hx
    have hil : i < its.length := by
      obtain ⟨h, _⟩ := List.getElem?_eq_some_iff.mp hu
      exact h
    refine turn_pair (Yl := fun x H' => (Ite X.K a).yld i H x H') (Tn := fun h => (∃ old, IsEnum h e it ((i + 1 : Nat) : Int) old) ∧ h.IsListIter it a (i + 1)) (WalksT.enumerate (I.ok.hd hc) e it a hei hae hai its.toArray) I hf (fun b hb => ?_) (fun b hb => hb) (by simpa using hil) ⟨st.1, st.2, p.isList⟩ (fun h q => ⟨q.1, q.2.1⟩) fun vals hp => ?_
    · obtain ⟨⟨old, h1⟩, o, h2, c, d⟩ := st
      rcases List.mem_cons.mp hb with rfl | hb
      · exact ⟨_, h1⟩
      · have e' : b = it := by simpa using hb
        subst e'
        exact ⟨o, h2⟩
    · obtain ⟨t, y, hy, rfl⟩ := hp
      have hy' : its[i]? = some y := by simpa using hy
      rw [hu] at hy'
      cases hy'
      refine ⟨[.int i, x], vals_two ⟨t, rfl⟩ ru, by show 2 ≤ sizeLine; decide, fun T hT => ⟨T, rfl, hT, fun xs' x' hq' hx' => ?_⟩⟩
      rw [I.list_inj hq' hq, hx] at hx'
      cases hx'
      rfl
  done := by
    intro X hP hw hK hc i pins s σ H E I hf st hg
    subst hP hw hK
    obtain ⟨xs, hq, hx⟩ := hg
    obtain ⟨its, rv, p, hz⟩ := I.list hq
    have hl := rv.length
    have hn : its.toArray.size = i := by simp; omega
    have := turn_pair_end (E := E) (WalksT.enumerate (prog := X.prog) (w := X.w) (I.ok.hd hc) e it a hei hae hai its.toArray) I hf (by rw [hn]; exact ⟨st.1, st.2, p.isList⟩)
    exact this
  self := fun _ _ _ _ _ st h => by
    obtain ⟨⟨old, h1⟩, _⟩ := st
    exact wpAny_pyIter_enum h1 h
section
variable {X : Cx} {elts : List Expr} {kk : Nat} {pt : Pos}
noncomputable def iEnum (K : PySem.W.Frag) (ta : TA) : TI := fun σ H R => ta σ H fun vs H1 => ∃ a xs, vs = [.ref a] ∧ SqL K H1 a xs ∧ R (Ite K a) H1
theorem boot_enum : bootBuiltins "enumerate" = some (.type "enumerate") := by rfl
theorem pi_enum {a : Expr} {ta : TA} {p pos : Pos} (hg : Gl X "enumerate") (hm : X.mg "enumerate" = none) (ha : PA X [a] ta) (hs : starEach [a] X.env = [(false, eval a X.env)] := by rfl) :
    PI X (.Tuple elts kk pt) (.Call (.Name "enumerate" p) [a] [] pos) (iEnum X.K ta) := by
  intro pins s σ H R I h
  refine Call_ (ld_blt I hg hm boot_enum (PyProof.Rows.callWith_type1 (thn (ha pos pins s σ H _ I h) fun us s1 ⟨vs, H1, I1, r1, q1⟩ => ?_) hs rfl))
  obtain ⟨l, xs, e, hq, q⟩ := q1
  subst e
  cases r1 with
  | cons r rr =>
    cases rr
    cases r
    obtain ⟨its, rv, pl, hz⟩ := I1.list hq
    have hll : l < s1.heap.objs.size := by
      obtain ⟨o, z, _⟩ := pl.isList
      exact Heap.lt_size z
    refine call_enumerate_list pl.isList fun h' he hit hsz hk => ?_
    refine wpAny_pyIter_enum he ?_
    refine ⟨s1.heap.objs.size + 1, [s1.heap.objs.size + 1, s1.heap.objs.size], _, _, H1, rfl, I1.kept (t' := s1.toks) hk, turn_enum (s1.heap.objs.size + 1) s1.heap.objs.size l (Nat.ne_of_gt (Nat.lt_succ_self _)) (Nat.ne_of_lt (Nat.lt_succ_of_lt hll)) (Nat.ne_of_lt hll), ⟨⟨_, he⟩, hit⟩, fun b hb => ?_, q⟩
    have hb' : s1.heap.objs.size ≤ b := by
      simp at hb
      rcases hb with rfl | rfl
      · exact Nat.le_succ _
      · exact Nat.le_refl _
    exact I1.fpOk hb' (I1.hok.fresh hb')
end
end L2

set_option maxHeartbeats 1000000
namespace L2
open PySem PySem.Spec PyProof.Rows
section
variable {X : Cx} {o i : Expr} {pos : Pos} {td ty : TE}
end
section
variable {X : Cx} {k : Nat} {f C : Addr} {fd : FuncData} {ps : List Str} {sp : Sp} {dvs : List V} {ds : List Value} {m : Str} {p pos apos epos cpos : Pos} {e o : Expr} {es : List Expr} {ta : TE} {t : TA}
variable {te : XK → TE} {cx n : Str} {np hpos tpos wpos : Pos} {i j : Nat} {b₀ : Stmt} {suite : List Stmt} {ts : TS} {Cc : Addr} {call : Expr}
end
end L2

set_option maxHeartbeats 1000000
namespace L2
open PySem PySem.Spec PyProof.Rows
end L2

set_option maxHeartbeats 1000000
namespace L2
open PySem PySem.Spec PyProof.Rows
/-! ### the greatest of whole numbers -/
/-- the greatest of a and ns, as max walks -/
noncomputable def mxF : Int → List Int → Int
  | a, [] => a
  | a, b :: r => mxF (if b > a then b else a) r
noncomputable def mxD (d : Int) : List Int → Int
  | [] => d
  | a :: r => mxF a r
theorem mxF_snoc : ∀ (r : List Int) (a b : Int), mxF a (r ++ [b]) = if b > mxF a r then b else mxF a r
  | [], _, _ => rfl
  | _ :: r, _, b => mxF_snoc r _ b
theorem numAt_list {ns : List Int} {ys : List (Int × Tok)} (h : ys.map (·.1) = ns) (i : Nat) : numAt ys.toArray i = (ns[i]?).getD 0 := by
  subst h
  simp [numAt]
theorem best_mx {ns : List Int} {a : Int} {r : List Int} {ys : List (Int × Tok)} (h : ys.map (·.1) = ns) (e : ns = a :: r) : ∀ k, k < ns.length → numAt ys.toArray (argBest (fun i j => decide (numAt ys.toArray i > numAt ys.toArray j)) k) = mxF a (r.take k) ∧ argBest (fun i j => decide (numAt ys.toArray i > numAt ys.toArray j)) k ≤ k
  | 0, _ => by
    rw [argBest, numAt_list h, e, List.take_zero]
    exact ⟨rfl, Nat.le_refl _⟩
  | k + 1, hk => by
    obtain ⟨ih, le⟩ := best_mx h e k (by omega)
    have hk' : k < r.length := by
      rw [e, List.length_cons] at hk
      omega
    have x1 : numAt ys.toArray (k + 1) = r[k] := by
      rw [numAt_list h, e, List.getElem?_cons_succ, List.getElem?_eq_getElem hk']
      rfl
    rw [List.take_add_one, List.getElem?_eq_getElem hk', Option.toList_some, mxF_snoc, argBest]
    by_cases c : r[k] > mxF a (r.take k)
    · rw [if_pos c, if_pos (by rw [decide_eq_true_eq, x1, ih]; exact c)]
      exact ⟨x1, Nat.le_refl _⟩
    · rw [if_neg c, if_neg (by rw [decide_eq_true_eq, x1, ih]; exact c)]
      exact ⟨ih, by omega⟩
section
variable {prog : Program} {w : World} {A : Around} {R : Result → Shared → Prop} {I S : Addr} {fp wr : List Addr} {n : Nat} {P : Nat → Value → Prop} {St : Nat → Heap → Prop} {kw : List (Str × Value)} {bt : Nat → Nat → Bool}
noncomputable abbrev pairL (b : Value) (c : Nat) : Obj := { cls := .type "list", dict := none, data := .seq #[b, b] c, slots := #[] }
/-- the loop of max, when something is the greatest so far; keywords are carried along -/
theorem mx_loop (W : Walks prog w A.in1 I fp wr n P St) (cm : CmpOf prog w A.in1 .Gt P bt) (nf : S ∉ fp) : ∀ (r i : Nat) (s : Shared) (b : Value) (c : Nat), i + 1 + r = n → St (i + 1) s.heap → P (argBest bt i) b → s.heap.get? S = some (pairL b c) →
    (∀ v h' tk, P (argBest bt (n - 1)) v → (∀ x o, x ∉ wr → x ≠ S → s.heap.get? x = some o → h'.get? x = some o) → R (.ok (.ret v)) { s with heap := h', toks := tk }) → codeAny (model prog w) A (.builtin "max.loop" ⟨[.ref I, .none, .ref S], kw⟩) R s := by
  have nw : S ∉ wr := fun z => nf (W.sub _ z)
  have nm : (toString "max" ++ toString ".loop" : String) = "max.loop" := by decide
  intro r
  induction r with
  | zero =>
    intro i s b c e st pb gS q
    refine codeAny_builtin PySem.F.entry_max_loop (by
      rw [PySem.Around.under_plainId PySem.F.plain_max_loop]
      show wpAny _ A.in1 (seqItems? (Value.ref S) >>= _) _ _ s
      refine wpAny_bind (wpAny_seqItems gS rfl ?_)
      show wpAny _ A.in1 (tryCatch (pyNext (Value.ref I)) _ >>= _) _ _ s
      refine wpAny_bind (wpAny_tryCatch (W.done s _ _ (show St n s.heap by rw [← e]; exact st) fun h1 tk1 k1 => ?_))
      show wpAny _ A.in1 (updateSeq S (fun _ => #[]) >>= _) _ _ _
      refine wpAny_bind (wpAny_updateSeq (k1 S _ nw gS) rfl (wpAny_bind (wpAny_letGo (wpAny_pure ?_))))
      exact q b _ tk1 (by rw [show n - 1 = i by omega]; exact pb) fun x o x1 x2 y => (Heap.get?_update_other _ _ (Ne.symm x2)).trans (k1 x o x1 y))
  | succ r ih =>
    intro i s b c e st pb gS q
    refine codeAny_builtin PySem.F.entry_max_loop (by
      rw [PySem.Around.under_plainId PySem.F.plain_max_loop]
      show wpAny _ A.in1 (seqItems? (Value.ref S) >>= _) _ _ s
      refine wpAny_bind (wpAny_seqItems gS rfl ?_)
      show wpAny _ A.in1 (tryCatch (pyNext (Value.ref I)) _ >>= _) _ _ s
      refine wpAny_bind (wpAny_tryCatch (W.item (i + 1) s _ _ (by omega) st fun v h1 tk1 pv st1 k1 => ?_))
      have gS1 := k1 S _ nw gS
      show wpAny _ A.in1 (tryCatch (holding [v, v] (richCompare .Gt v b >>= _)) _ >>= _) _ _ _
      refine wpAny_bind (wpAny_tryCatch (wpAny_holding (wpAny_bind (cm (i + 1) (argBest bt i) v b _ _ _ pv pb (wpAny_bind (wpAny_holding (wpAny_truthy_bool (wpAny_bind (wpAny_letGo (wpAny_pure ?_)))))))))) 
      cases hb : bt (i + 1) (argBest bt i) with
      | true =>
        simp only [if_true]
        refine wpAny_bind (wpAny_updateSeq gS1 rfl (wpAny_bind (wpAny_letGo ?_)))
        rw [nm]
        refine wpAny_pure ⟨plainId_quiet PySem.F.plain_max_loop _, ih (i + 1) _ v _ (by omega) (W.frame _ _ _ st1 fun x xf o y => (Heap.get?_update_other _ _ (fun z : S = x => nf (by rw [z]; exact xf))).trans y) (by simp only [argBest, hb, if_true]; exact pv) (Heap.get?_update_self _ gS1 rfl) fun v2 h2 tk2 p2 k2 => q v2 h2 tk2 p2 fun x o x1 x2 y => k2 x o x1 x2 ((Heap.get?_update_other _ _ (Ne.symm x2)).trans (k1 x o x1 y))⟩
      | false =>
        simp only [Bool.false_eq_true, if_false]
        refine wpAny_bind (wpAny_letGo ?_)
        rw [nm]
        refine wpAny_pure ⟨plainId_quiet PySem.F.plain_max_loop _, ih (i + 1) _ b c (by omega) st1 (by simp only [argBest, hb, Bool.false_eq_true, if_false]; exact pb) gS1 fun v2 h2 tk2 p2 k2 => q v2 h2 tk2 p2 fun x o x1 x2 y => k2 x o x1 x2 (k1 x o x1 y)⟩)
theorem mx_start (W : Walks prog w A.in1 I fp wr n P St) (cm : CmpOf prog w A.in1 .Gt P bt) (nf : S ∉ fp) {d : Value} {s : Shared} {c : Nat} (st : St 0 s.heap) (gS : s.heap.get? S = some { cls := .type "list", dict := none, data := .seq #[] c, slots := #[] })
    (q : ∀ v h' tk, (0 < n → P (argBest bt (n - 1)) v) → (n = 0 → v = d) → (∀ x o, x ∉ wr → x ≠ S → s.heap.get? x = some o → h'.get? x = some o) → R (.ok (.ret v)) { s with heap := h', toks := tk }) : codeAny (model prog w) A (.builtin "max.loop" ⟨[.ref I, .none, .ref S], [("default", d)]⟩) R s := by
  have nw : S ∉ wr := fun z => nf (W.sub _ z)
  have nm : (toString "max" ++ toString ".loop" : String) = "max.loop" := by decide
  refine codeAny_builtin PySem.F.entry_max_loop (by
    rw [PySem.Around.under_plainId PySem.F.plain_max_loop]
    show wpAny _ A.in1 (seqItems? (Value.ref S) >>= _) _ _ s
    refine wpAny_bind (wpAny_seqItems gS rfl ?_)
    show wpAny _ A.in1 (tryCatch (pyNext (Value.ref I)) _ >>= _) _ _ s
    by_cases n0 : n = 0
    · subst n0
      refine wpAny_bind (wpAny_tryCatch (W.done s _ _ st fun h1 tk1 k1 => ?_))
      show wpAny _ A.in1 (rule _ >>= _) _ _ _
      refine wpAny_bind (wpAny_rule (wpAny_pure ?_))
      exact q d h1 tk1 (fun z => absurd z (Nat.lt_irrefl _)) (fun _ => rfl) fun x o x1 _ y => k1 x o x1 y
    · refine wpAny_bind (wpAny_tryCatch (W.item 0 s _ _ (by omega) st fun v h1 tk1 pv st1 k1 => ?_))
      have gS1 := k1 S _ nw gS
      show wpAny _ A.in1 (updateSeq S (fun _ => #[v, v]) >>= _) _ _ _
      refine wpAny_bind (wpAny_updateSeq gS1 rfl ?_)
      rw [nm]
      refine wpAny_pure ⟨plainId_quiet PySem.F.plain_max_loop _, mx_loop W cm nf (n - 1) 0 _ v _ (by omega) (W.frame _ _ _ st1 fun x xf o y => (Heap.get?_update_other _ _ (fun z : S = x => nf (by rw [z]; exact xf))).trans y) pv (Heap.get?_update_self _ gS1 rfl) fun v2 h2 tk2 p2 k2 => ?_⟩
      exact q v2 h2 tk2 (fun _ => p2) (fun z => absurd z n0) fun x o x1 x2 y => k2 x o x1 x2 ((Heap.get?_update_other _ _ (Ne.symm x2)).trans (k1 x o x1 y)))
end
section
variable {X : Cx}
theorem mx_args (a d : Value) : argsOk "max" ⟨[a], [("default", d)]⟩ := by unfold argsOk; kernel_rfl
theorem items_toks {ns : List Int} {ys : List (Int × Tok)} (v : Vals (ns.map V.int) (ys.map fun p => Value.int p.1 p.2)) : ys.map (·.1) = ns := by
  induction ns generalizing ys with
  | nil =>
    cases ys with
    | nil => rfl
    | cons y ys => cases v
  | cons n ns ih =>
    cases ys with
    | nil => cases v
    | cons y ys =>
      cases v with
      | cons a b =>
        obtain ⟨t, e⟩ := a
        cases e
        rw [List.map_cons, ih b]
/-- max(xs, default=d) of whole numbers -/
noncomputable def tMaxD (K : PySem.W.Frag) (t tk : TA) : TE := fun σ H Q => t σ H fun vs H1 => tk σ H1 fun zs H2 => ∃ (l : Addr) (ns : List Int) (d : Int), vs = [.ref l] ∧ zs = [.int d] ∧ SqL K H2 l (ns.map V.int) ∧ Q (.int (mxD d ns)) H2
theorem call_mxD (hc : X.calm = true) {pins : List (Addr × Obj)} {σ : St} {H : Hp} {s : Shared} {Q : VK} {l : Addr} {ns : List Int} {d : Int} {u : Value} (I : Inv X pins σ H s) (hl : SqL X.K H l (ns.map V.int)) (hu : RelV (.int d) u) (q : Q (.int (mxD d ns)) H) :
    wpAny (model X.prog X.w) X.A (call (.builtin "max") [.ref l] [("default", u)]) (EP X pins σ Q) X.xe s := by
  obtain ⟨its, v, P1, z1⟩ := I.list hl
  obtain ⟨ys, rfl⟩ := ints_items v
  have hys := items_toks v
  have hl' : s.heap.IsList l (intItems ys.toArray) := by
    have := P1.isList
    rw [show (ys.map fun p => Value.int p.1 p.2).toArray = intItems ys.toArray by unfold intItems; simp] at this
    exact this
  have nm : (toString "max" ++ toString ".loop" : String) = "max.loop" := by decide
  refine kmk_tree PySem.F.kind_max PySem.F.plain_max PySem.F.entry_max (mx_args _ _) ?_
  show wpAny _ X.A.in1 (Builtin.Builtins.bindParams "max" ["key", "default"] 0 ⟨[], [("default", u)]⟩ >>= _) _ _ s
  refine wpAny_bind (wpAny_of_eq (show Builtin.Builtins.bindParams "max" ["key", "default"] 0 ⟨[], [("default", u)]⟩ = pure [none, some u] from rfl) ?_)
  refine wpAny_bind (wpAny_pure (wpAny_bind (iter_intList hl' fun s2 e2 st2 fp2 ne2 => ?_)))
  subst e2
  refine wpAny_bind (wpAny_newObj_type ?_)
  rw [nm]
  refine wpAny_pure ⟨plainId_quiet PySem.F.plain_max_loop _, mx_start (d := u) (Walks.list (A := X.A.in1) (I.ok.hd hc) _ l ne2 (intItems ys.toArray)) (CmpOf.ints_gt (numAt ys.toArray) (fun _ _ => intItems_at)) (fun z => Nat.lt_irrefl _ (fp2 _ z)) ⟨st2.1.at fun o y => Heap.get?_push_of_some _ y, st2.2.at fun o y => Heap.get?_push_of_some _ y⟩ (Heap.get?_push_size _ rfl) fun v2 h2 tk2 p2 p0 k2 => ?_⟩
  have kk : ∀ x o, s.heap.get? x = some o → h2.get? x = some o := fun x o y => by
    have lt := Heap.lt_size y
    refine k2 x o (by simpa using Nat.ne_of_lt lt) (fun z => ?_) (Heap.get?_push_of_some _ (Heap.get?_push_of_some _ y))
    rw [z, Heap.size_push] at lt
    exact Nat.lt_asymm lt (Nat.lt_succ_self _)
  have sz : (intItems ys.toArray).size = ns.length := by rw [← hys]; simp [intItems]
  rw [sz] at p2 p0
  obtain ⟨t, ev⟩ : ∃ t, v2 = .int (mxD d ns) t := by
    cases hn : ns with
    | nil =>
      rw [p0 (by rw [hn]; rfl)]
      exact hu
    | cons a r =>
      have lt : ns.length - 1 < ns.length := by rw [hn, List.length_cons]; omega
      obtain ⟨t, e⟩ := intItems_at (p2 (by omega))
      refine ⟨t, ?_⟩
      rw [e, (best_mx hys hn _ lt).1, hn, List.length_cons, Nat.add_sub_cancel, List.take_of_length_le (Nat.le_refl _)]
      rfl
  subst ev
  exact ⟨.int _, H, I.kept (t' := tk2) kk, ⟨t, rfl⟩, q⟩
theorem pe_maxD {e v : Expr} {t tk : TA} {p pos kp : Pos} (hc : X.calm = true) (hg : Gl X "max") (hm : X.mg "max" = none) (ha : PA X [e] t) (hkw : PK X [⟨some "default", v, kp⟩] tk) (he : backTo pos (starEach [e] X.env) = (false, eval e X.env) :: backTo pos (starEach [] X.env) := by rfl) (hpl : (backTo pos (starEach [e] X.env)).any (·.1) = false := by rfl) :
    PE X (.Call (.Name "max" p) [e] [⟨some "default", v, kp⟩] pos) (tMaxD X.K t tk) := by
  intro pins s σ H Q I h
  refine wpAny_Call_Name_kw (ld_blt I hg hm (u := .builtin "max") (by decide +kernel) ?_)
  refine PyProof.Rows.callWith_kw (thn (ha pos pins s σ H _ I h) fun us s1 ⟨vs, H1, I1, r1, q1⟩ => ?_) he hpl
  refine thn (hkw pos pins s1 σ H1 _ I1 q1) fun ws s2 ⟨zs, H2, I2, r2, q2⟩ => ?_
  obtain ⟨l, ns, d, rfl, rfl, hl, q⟩ := q2
  obtain ⟨u, rfl, ru⟩ := vals1 r1
  obtain ⟨u2, rfl, ru2⟩ := vals1 r2
  obtain rfl : u = Value.ref l := ru
  exact call_mxD hc I2 hl ru2 q
end
end L2

set_option maxHeartbeats 1000000
namespace L2
open PySem PySem.Spec PyProof.Rows
/-! ### a comprehension one of whose own names is taken by a comprehension within it: a new cell stands behind the map -/
section
variable {X : Cx} {pins : List (Addr × Obj)} {σ : St} {H : Hp} {s : Shared}

variable {elt iter tg : Expr} {ifs : List Expr} {scope : Scope} {pos : Pos} {own capn : List Str} {capI : List Nat} {wi : TI} {g : TG} {tt : TT} {te : TE}
end
end L2

set_option maxHeartbeats 1000000
namespace L2
open PySem PySem.Spec PyProof.Rows
section
variable {X : Cx} {pins : List (Addr × Obj)} {σ : St} {H : Hp} {s : Shared} {a : Addr} {u : HO} {o : Obj}
/-! ### a dict held fast while it is gone through -/
end
/-! ### the keys of a dict, one by one -/
section
variable {prog : Program} {w : World} {A : Around} {E : Value → Shared → Prop} {sh : Shared} {ic dc : Addr} {i ep : Nat} {od : Obj} {es : Array DictEntry} {Q : Option Value → Shared → Prop}
end
section
variable {X : Cx} {tg : Expr}
end
end L2



set_option maxHeartbeats 1000000
namespace L2
open PySem PySem.Spec PyProof.Rows
/-! ### the items of a dict, one by one -/
section
variable {X : Cx} {elts : List Expr} {kk : Nat} {pt : Pos}
end
/-! ### any of a list of truths -/
end L2

set_option maxHeartbeats 1000000
namespace L2
open PySem PySem.Spec PyProof.Rows
section
variable {X : Cx} {o e : Expr} {to : TE} {te : XK → TE} {apos cpos : Pos}
end
end L2

namespace L2
open PySem PySem.Spec PyProof.Rows
section
variable {X : Cx}
/-! ### sum of whole numbers, told exactly -/
end
end L2

set_option maxHeartbeats 1000000
namespace L2
open PySem PySem.Spec PyProof.Rows
section
variable {X : Cx} {pins : List (Addr × Obj)} {σ : St} {H : Hp} {s : Shared} {a : Addr} {u : HO} {o : Obj}
/-! ### a statement during which a dict is held fast -/
end
/-! ### the values of a dict -/
section
variable {prog : Program} {w : World} {A : Around} {E : Value → Shared → Prop} {sh : Shared} {ic dc : Addr} {i ep : Nat} {od : Obj} {es : Array DictEntry}
end
section
variable {X : Cx}
end
end L2


namespace Srt
open PySem PySem.W PyProof.Rows
section
variable {n : Nat} {rk : Nat → Int} {S : Shared}
/-- a question is answered by the ranks -/
noncomputable def ans (n : Nat) (rk : Nat → Int) (i j : Nat) (C : Bool → Shared → Prop) (s : Shared) : Prop := i < n ∧ j < n ∧ C (decide (rk i < rk j)) s
noncomputable abbrev Wp (n : Nat) (rk : Nat → Int) (s : Shared) {α : Type} (t : KasT α) (Q : α → Prop) : Prop := t.kasWp (ans n rk) (fun a s' => s' = s ∧ Q a) s
theorem wp_ret {α : Type} {a : α} {Q : α → Prop} (h : Q a) : Wp n rk S (.ret a) Q := ⟨rfl, h⟩
theorem wp_ask {α : Type} {i j : Nat} {k : Bool → KasT α} {Q : α → Prop} (hi : i < n) (hj : j < n) (h1 : rk i < rk j → Wp n rk S (k true) Q) (h2 : rk j ≤ rk i → Wp n rk S (k false) Q) : Wp n rk S (.ask i j k) Q := by
  refine ⟨hi, hj, ?_⟩
  by_cases h : rk i < rk j
  · rw [decide_eq_true h]
    exact h1 h
  · rw [decide_eq_false h]
    exact h2 (Int.not_lt.mp h)
theorem wp_go {α : Type} {s : Shared} {Q R : α → Shared → Prop} (h : ∀ a s, Q a s → R a s) : ∀ (t : KasT α) (s : Shared), t.kasWp (ans n rk) Q s → t.kasWp (ans n rk) R s
  | .ret a, s, q => h a s q
  | .ask _ _ k, s, q => ⟨q.1, q.2.1, wp_go (s := s) h (k _) s q.2.2⟩
theorem wp_bind {α β : Type} {t : KasT α} {f : α → KasT β} {Q : β → Prop} (h : Wp n rk S t fun a => Wp n rk S (f a) Q) : Wp n rk S (t.bind f) Q := by
  unfold Wp
  rw [KasT.kasWp_bind]
  refine wp_go (s := S) (fun a s q => ?_) t S h
  obtain ⟨rfl, q⟩ := q
  exact q
theorem wp_mono {α : Type} {t : KasT α} {Q R : α → Prop} (q : Wp n rk S t Q) (h : ∀ a, Q a → R a) : Wp n rk S t R := wp_go (s := S) (fun a _ z => ⟨z.1, h a z.2⟩) t S q
/-- an order of the places 0 .. n-1 -/
noncomputable def Ord (n : Nat) (p : Array Nat) : Prop := p.Perm (List.range n).toArray
theorem Ord.size {p : Array Nat} (h : Ord n p) : p.size = n := by
  rw [Array.Perm.size_eq h]
  simp
theorem Ord.lt {p : Array Nat} (h : Ord n p) {i : Nat} (hi : i < n) : p.getD i 0 < n := by
  have hz : i < p.size := by rw [h.size]; exact hi
  have e : p.getD i 0 = p[i] := by simp [Array.getD, hz]
  have m : p[i] ∈ (List.range n).toArray.toList := (Array.perm_iff_toList_perm.mp h).mem_iff.mp (by simp)
  rw [e]
  simpa using m
noncomputable abbrev ky (rk : Nat → Int) (p : Array Nat) (i : Nat) : Int := rk (p.getD i 0)
theorem ky_of {p q : Array Nat} {i j : Nat} (h : p[i]? = q[j]?) : ky rk p i = ky rk q j := by
  unfold ky
  rw [Array.getD_eq_getD_getElem?, Array.getD_eq_getD_getElem?, h]
theorem ky_rev {p : Array Nat} {i j : Nat} (hj : j ≤ p.size) (k : Nat) : ky rk (kas_rev p i j) k = if i ≤ k ∧ k < j then ky rk p (i + j - 1 - k) else ky rk p k := by
  have e := getElem?_mirror_all (i := i) hj k
  unfold kas_rev
  by_cases h : i ≤ k ∧ k < j
  · rw [if_pos h] at e ⊢
    exact ky_of e
  · rw [if_neg h] at e ⊢
    exact ky_of e
theorem ky_bub {p : Array Nat} {c d : Nat} (hc : c < p.size) (hd : d ≤ c) (k : Nat) : ky rk (bubble p c d) k = if k = c - d then ky rk p c else if c - d < k ∧ k ≤ c then ky rk p (k - 1) else ky rk p k := by
  have e := getElem?_bubble hc d hd k
  by_cases h1 : k = c - d
  · rw [if_pos h1] at e ⊢
    exact ky_of e
  · rw [if_neg h1] at e ⊢
    by_cases h2 : c - d < k ∧ k ≤ c
    · rw [if_pos h2] at e ⊢
      exact ky_of e
    · rw [if_neg h2] at e ⊢
      exact ky_of e
theorem Ord.rev {p : Array Nat} (h : Ord n p) (i j : Nat) : Ord n (kas_rev p i j) := (mirror_perm _ _ _ _).trans h
theorem Ord.bub {p : Array Nat} (h : Ord n p) (i j : Nat) : Ord n (bubble p i j) := (bubble_perm _ _ _).trans h
/-- rising, falling up to a place -/
noncomputable def Up (rk : Nat → Int) (p : Array Nat) (m : Nat) : Prop := ∀ i j, i ≤ j → j < m → ky rk p i ≤ ky rk p j
noncomputable def Dn (rk : Nat → Int) (p : Array Nat) (m : Nat) : Prop := ∀ i j, i ≤ j → j < m → ky rk p j ≤ ky rk p i
theorem Up.snoc {p : Array Nat} {m : Nat} (h : Up rk p m) (h1 : 1 ≤ m) (l : ky rk p (m - 1) ≤ ky rk p m) : Up rk p (m + 1) := fun i j hij hj => by
  by_cases e : j < m
  · exact h i j hij e
  · have : j = m := by omega
    subst this
    by_cases e2 : i = j
    · rw [e2]; exact Int.le_refl _
    · exact Int.le_trans (h i (j - 1) (by omega) (by omega)) l
theorem Dn.snoc {p : Array Nat} {m : Nat} (h : Dn rk p m) (h1 : 1 ≤ m) (l : ky rk p m ≤ ky rk p (m - 1)) : Dn rk p (m + 1) := fun i j hij hj => by
  by_cases e : j < m
  · exact h i j hij e
  · have : j = m := by omega
    subst this
    by_cases e2 : i = j
    · rw [e2]; exact Int.le_refl _
    · exact Int.le_trans l (h i (j - 1) (by omega) (by omega))
theorem asc {p : Array Nat} (O : Ord n p) {Q : Nat → Prop} : ∀ (f a : Nat), 1 ≤ a → a + f ≤ n → Up rk p a → (∀ m, a ≤ m → m ≤ a + f → Up rk p m → (m = a + f ∨ ky rk p m < ky rk p (m - 1)) → Q m) → Wp n rk S (kas_asc p f a) Q
  | 0, a, _, _, u, h => wp_ret (h a (Nat.le_refl _) (Nat.le_refl _) u (.inl rfl))
  | f + 1, a, h1, hn, u, h => by
    refine wp_ask (O.lt (by omega)) (O.lt (by omega)) (fun c => ?_) (fun c => ?_)
    · exact wp_ret (h a (Nat.le_refl _) (by omega) u (.inr c))
    · exact asc O f (a + 1) (by omega) (by omega) (u.snoc h1 c) fun m h2 h3 um hm => h m (by omega) (by omega) um (hm.imp (fun z => by omega) id)
/-- the last q + 1 of the first m are alike -/
noncomputable def Tl (rk : Nat → Int) (p : Array Nat) (m q : Nat) : Prop := ∀ i, m - (q + 1) ≤ i → i < m → ky rk p i = ky rk p (m - 1)
theorem Tl.rev {p : Array Nat} {m q : Nat} (h : Tl rk p m q) (hm : m ≤ p.size) (k : Nat) : ky rk (kas_rev p (m - (q + 1)) m) k = ky rk p k := by
  rw [ky_rev hm]
  split
  · rename_i c
    rw [h _ (by omega) (by omega), h k c.1 c.2]
  · rfl
theorem Dn.like {p q : Array Nat} {m : Nat} (h : Dn rk p m) (e : ∀ k, ky rk q k = ky rk p k) : Dn rk q m := fun i j hij hj => by rw [e, e]; exact h i j hij hj
theorem desc {Q : Array Nat × Nat × Nat → Prop} : ∀ (f : Nat) (p : Array Nat) (a q : Nat), Ord n p → 1 ≤ a → a + f ≤ n → Dn rk p a → Tl rk p a q → (∀ p' m q', Ord n p' → 1 ≤ m → m ≤ a + f → Dn rk p' m → Tl rk p' m q' → Q (p', m, q')) → Wp n rk S (kas_desc f p a q) Q
  | 0, p, a, q, O, h1, hn, d, t, h => wp_ret (h p a q O h1 (Nat.le_refl _) d t)
  | f + 1, p, a, q, O, h1, hn, d, t, h => by
    have next : ∀ p' q', Ord n p' → Dn rk p' (a + 1) → Tl rk p' (a + 1) q' → Wp n rk S (kas_desc f p' (a + 1) q') Q := fun p' q' O' d' t' => desc f p' (a + 1) q' O' (by omega) (by omega) d' t' fun p2 m q2 O2 g1 g2 d2 t2 => h p2 m q2 O2 g1 (by omega) d2 t2
    have one : ∀ p', Tl rk p' (a + 1) 0 := fun p' i g1 g2 => by
      have : i = a + 1 - 1 := by omega
      rw [this]
    refine wp_ask (O.lt (by omega)) (O.lt (by omega)) (fun c => ?_) (fun c => ?_)
    · show Wp n rk S (if q > 0 then kas_desc f (kas_rev p (a - (q + 1)) a) (a + 1) 0 else kas_desc f p (a + 1) 0) Q
      have d2 := d.snoc h1 (Int.le_of_lt c)
      split
      · exact next _ _ (O.rev _ _) (d2.like (t.rev (by rw [O.size]; omega))) (one _)
      · exact next _ _ O d2 (one _)
    · refine wp_ask (O.lt (by omega)) (O.lt (by omega)) (fun c2 => ?_) (fun c2 => ?_)
      · exact wp_ret (h p a q O h1 (by omega) d t)
      · have e : ky rk p a = ky rk p (a - 1) := Int.le_antisymm c2 c
        refine next _ _ O (d.snoc h1 c2) fun i g1 g2 => ?_
        show _ = ky rk p a
        by_cases z : i = a
        · rw [z]
        · rw [e]
          exact t i (by omega) (by omega)
/-- what the first run tells -/
noncomputable abbrev Run (n : Nat) (rk : Nat → Int) (r : Nat × Array Nat) : Prop := 1 ≤ r.1 ∧ r.1 ≤ n ∧ Ord n r.2 ∧ Up rk r.2 r.1
theorem tail3 {p : Array Nat} {m : Nat} (O : Ord n p) (h1 : 1 ≤ m) (hm : m ≤ n) (d : Dn rk p m) : Wp n rk S (kas_tail3 m n p) (Run n rk) := by
  have u : Up rk (kas_rev p 0 m) m := fun i j hij hj => by
    rw [ky_rev (by rw [O.size]; exact hm), ky_rev (by rw [O.size]; exact hm), if_pos ⟨Nat.zero_le _, by omega⟩, if_pos ⟨Nat.zero_le _, hj⟩]
    exact d _ _ (by omega) (by omega)
  exact wp_bind (asc (O.rev _ _) _ _ h1 (by omega) u fun k g1 g2 uk _ => wp_ret ⟨by omega, by omega, O.rev _ _, uk⟩)
theorem descPart {p : Array Nat} {m : Nat} (O : Ord n p) (hm : m + 1 ≤ n) (d : Dn rk p (m + 1)) : Wp n rk S (kas_descPart m n p) (Run n rk) := by
  refine wp_bind (desc _ _ _ _ O (by omega) (by omega) d (fun i g1 g2 => ?_) fun p' k q O' g1 g2 d' t' => ?_)
  · have : i = m + 1 - 1 := by omega
    rw [this]
  · show Wp n rk S (if q > 0 then kas_tail3 k n (kas_rev p' (k - (q + 1)) k) else kas_tail3 k n p') _
    split
    · exact tail3 (O'.rev _ _) g1 (by omega) (d'.like (t'.rev (by rw [O'.size]; omega)))
    · exact tail3 O' g1 (by omega) d'
theorem count {p : Array Nat} (O : Ord n p) (h1 : 1 ≤ n) : Wp n rk S (kas_count n p) (Run n rk) := by
  refine wp_bind (asc O _ _ (Nat.le_refl 1) (by omega) (fun i j hij hj => ?_) fun m g1 g2 u hm => ?_)
  · have : i = j := by omega
    rw [this]
    exact Int.le_refl _
  · have g3 : m ≤ n := by omega
    show Wp n rk S (if (m == n) = true then .ret (m, p) else if m > 1 then .ask (p.getD 0 0) (p.getD (m - 1) 0) fun c => if c = true then .ret (m, p) else kas_descPart m n (kas_rev p 0 m) else kas_descPart m n p) _
    split
    · exact wp_ret ⟨g1, g3, O, u⟩
    · rename_i c
      have g4 : m < n := by
        have : m ≠ n := fun z => c (by rw [z]; exact beq_self_eq_true _)
        omega
      have l : ky rk p m < ky rk p (m - 1) := hm.resolve_left (by omega)
      split
      · rename_i c2
        refine wp_ask (O.lt (by omega)) (O.lt (by omega)) (fun _ => wp_ret ⟨g1, g3, O, u⟩) (fun c3 => ?_)
        have al : ∀ i, i < m → ky rk p i = ky rk p (m - 1) := fun i hi => Int.le_antisymm (u i (m - 1) (by omega) (by omega)) (Int.le_trans c3 (u 0 i (by omega) hi))
        have t : Tl rk p m (m - 1) := fun i _ hi => al i hi
        refine descPart (O.rev _ _) g4 ?_
        have e : ∀ k, ky rk (kas_rev p 0 m) k = ky rk p k := fun k => by
          have := t.rev (by rw [O.size]; exact g3) k
          rw [show m - (m - 1 + 1) = 0 by omega] at this
          exact this
        refine Dn.like (Dn.snoc (fun i j _ hj => ?_) g1 (Int.le_of_lt l)) e
        rw [al i (by omega), al j hj]
        exact Int.le_refl _
      · have e1 : m = 1 := by omega
        subst e1
        refine descPart O g4 (Dn.snoc (fun i j _ hj => ?_) g1 (Int.le_of_lt l))
        have : i = j := by omega
        rw [this]
        exact Int.le_refl _
theorem place {p : Array Nat} (O : Ord n p) {k : Nat} (hk : k < n) (u : Up rk p k) {Q : Nat → Prop} (h : ∀ l, l ≤ k → (∀ i, i < l → ky rk p i ≤ ky rk p k) → (∀ i, l ≤ i → i < k → ky rk p k ≤ ky rk p i) → Q l) :
    ∀ (f l r : Nat), l ≤ r → r ≤ k → r - l ≤ f → (∀ i, i < l → ky rk p i ≤ ky rk p k) → (∀ i, r ≤ i → i < k → ky rk p k ≤ ky rk p i) → Wp n rk S (kas_place p k f l r) Q
  | 0, l, r, a, b, c, d, e => wp_ret (h l (by omega) d fun i g1 g2 => e i (by omega) g2)
  | f + 1, l, r, a, b, c, d, e => by
    show Wp n rk S (if l ≥ r then .ret l else .ask (p.getD k 0) (p.getD ((l + r) / 2) 0) fun c => if c = true then kas_place p k f l ((l + r) / 2) else kas_place p k f ((l + r) / 2 + 1) r) Q
    split
    · exact wp_ret (h l (by omega) d fun i g1 g2 => e i (by omega) g2)
    · refine wp_ask (O.lt hk) (O.lt (by omega)) (fun c1 => ?_) (fun c1 => ?_)
      · exact place O hk u h f l ((l + r) / 2) (by omega) (by omega) (by omega) d fun i g1 g2 => Int.le_trans (Int.le_of_lt c1) (u _ _ g1 g2)
      · exact place O hk u h f ((l + r) / 2 + 1) r (by omega) b (by omega) (fun i g1 => Int.le_trans (u _ _ (by omega) (by omega)) c1) e
theorem bin : ∀ (f : Nat) (p : Array Nat) (k : Nat), Ord n p → k + f = n → Up rk p k → Wp n rk S (kas_bin f p k) fun p' => Ord n p' ∧ Up rk p' n
  | 0, p, k, O, e, u => wp_ret ⟨O, by rw [← e]; exact u⟩
  | f + 1, p, k, O, e, u => by
    refine wp_bind (place O (by omega) u (fun l hl a b => ?_) _ _ _ (Nat.zero_le _) (Nat.le_refl _) (by omega) (fun i hi => by omega) (fun i g1 g2 => by omega))
    refine bin f _ (k + 1) (O.bub _ _) (by omega) fun i j hij hj => ?_
    have hz : k < p.size := by rw [O.size]; omega
    rw [ky_bub hz (by omega), ky_bub hz (by omega), show k - (k - l) = l by omega]
    by_cases i1 : i = l
    · rw [if_pos i1]
      by_cases j1 : j = l
      · rw [if_pos j1]; exact Int.le_refl _
      · rw [if_neg j1, if_pos ⟨by omega, by omega⟩]
        exact b _ (by omega) (by omega)
    · rw [if_neg i1]
      by_cases i2 : l < i ∧ i ≤ k
      · rw [if_pos i2, if_neg (by omega), if_pos ⟨by omega, by omega⟩]
        exact u _ _ (by omega) (by omega)
      · rw [if_neg i2]
        by_cases j1 : j = l
        · rw [if_pos j1]
          exact a i (by omega)
        · rw [if_neg j1]
          by_cases j2 : l < j ∧ j ≤ k
          · rw [if_pos j2]
            exact u _ _ (by omega) (by omega)
          · rw [if_neg j2]
            exact u _ _ (by omega) (by omega)
theorem sort (h1 : 1 ≤ n) : Wp n rk S (kas_sort n) fun p => Ord n p ∧ Up rk p n := by
  refine wp_bind (wp_mono (count (Array.Perm.refl _) h1) fun r hr => ?_)
  obtain ⟨m, p⟩ := r
  obtain ⟨a, b, O, u⟩ := hr
  show Wp n rk S (if m < n then kas_bin (n - max m 1) p (max m 1) else .ret p) _
  split
  · have e : max m 1 = m := Nat.max_eq_left a
    rw [e]
    exact bin _ _ _ O (by omega) u
  · have e : m = n := by
      have : m ≤ n := b
      omega
    subst e
    exact wp_ret ⟨O, u⟩
end
theorem conv {n : Nat} {rk : Nat → Int} {S : Shared} {cmp : Nat → Nat → (Bool → Shared → Prop) → Shared → Prop} {α : Type} {Q : α → Shared → Prop} (hc : ∀ i j C, i < n → j < n → C (decide (rk i < rk j)) S → cmp i j C S) : ∀ t : KasT α, t.kasWp (ans n rk) Q S → t.kasWp cmp Q S
  | .ret _, q => q
  | .ask i j k, q => hc i j _ q.1 q.2.1 (conv hc (k _) q.2.2)
end Srt
namespace L2
open PySem PySem.Spec PyProof.Rows PySem.W
/-! ### sorted(x) of a list of pairs of whole numbers -/
/-- pairs in their order, as one number (the second ones within bounds) -/
noncomputable def rkP (c : Int × Int) : Int := c.1 * 1099511627776 + c.2
noncomputable def inP (c : Int × Int) : Prop := -274877906944 ≤ c.2 ∧ c.2 ≤ 274877906944
section
variable {prog : Program} {w : World} {A : Around} {E : Value → Shared → Prop} {s : Shared}
theorem ask_pair {c d : Int × Int} {t1 t2 u1 u2 : Tok} {Q : Bool → Shared → Prop} (hc : inP c) (hd : inP d) (h : Q (decide (rkP c < rkP d)) s) :
    KatLex prog w A true false Q [(.int c.1 t1, .int d.1 u1), (.int c.2 t2, .int d.2 u2)] 0 s := by
  obtain ⟨a, b⟩ := c
  obtain ⟨x, y⟩ := d
  obtain ⟨b1, b2⟩ : -274877906944 ≤ b ∧ b ≤ 274877906944 := hc
  obtain ⟨y1, y2⟩ : -274877906944 ≤ y ∧ y ≤ 274877906944 := hd
  have h' : Q (decide (a * 1099511627776 + b < x * 1099511627776 + y)) s := h
  refine kat_cons (wpAny_eqBool_int (kat_go (fun e => kat_yes (kat_cons (wpAny_eqBool_int (kat_go (fun e2 => kat_yes (kat_nil ?_)) (fun e2 => kat_no ?_))))) (fun e => kat_no ?_)))
  · have e1 : a = x := eq_of_beq e
    have e3 : b = y := eq_of_beq e2
    rw [e1, e3, decide_eq_false (Int.lt_irrefl _)] at h'
    exact h'
  · have e1 : a = x := eq_of_beq e
    show wpAny _ _ (oneLt' false (.int b t2) (.int y u2)) _ _ _
    refine kat_one _ _ (wpAny_lt_int ?_)
    show Q (decide (b < y)) s
    rw [show decide (b < y) = decide (a * 1099511627776 + b < x * 1099511627776 + y) from decide_eq_decide.mpr (by rw [e1]; omega)]
    exact h'
  · have e1 : a ≠ x := fun z => by rw [z, beq_self_eq_true] at e; cases e
    show wpAny _ _ (oneLt' true (.int a t1) (.int x u1)) _ _ _
    refine oneLt_int ?_
    rw [show decide (a < x) = decide (a * 1099511627776 + b < x * 1099511627776 + y) from decide_eq_decide.mpr (by omega)]
    exact h'
/-- the objects but one are kept -/
noncomputable def KeptB (a : Addr) (h g : Heap) : Prop := ∀ b o, b ≠ a → h.get? b = some o → g.get? b = some o
theorem sort_at {a : Addr} {vs : List Value} {m : Nat} {P : PySem.Fin → Shared → Prop} {rk : Nat → Int} (there : s.heap.get? a = some (seqObj "list" vs.toArray m)) (few : vs.length < 64)
    (ty : ∀ g : Heap, KeptB a s.heap g → ∃ fs, KatTups g vs fs ∧ fs.length = vs.length ∧ ∀ v ∈ fs, ∃ i t, v = .int i t)
    (ask : ∀ g : Heap, KeptB a s.heap g → ∀ i j C, i < vs.length → j < vs.length → C (decide (rk i < rk j)) { s with heap := g } → kas_ask prog w A (tuples' true) vs i j C { s with heap := g })
    (fin : ∀ p : Array Nat, Srt.Ord vs.length p → Srt.Up rk p vs.length → P (.done (.ret .none)) { s with heap := sortedHeap s.heap a vs (p.toList.map fun i => vs.getD i Value.none).toArray }) :
    wpAny (model prog w) A (Builtin.«list.sort» ⟨[.ref a], []⟩) P E s := by
  have al : a < s.heap.objs.size := Heap.lt_size there
  have zl : vs.length ≤ sizeLine := by rw [sizeLine_eq]; omega
  rw [list_sort_plain]
  refine wpAny_bind (listItems_at there rfl (wpAny_bind (listUpdate_at there rfl ?_ (by rw [List.size_toArray]; omega) (Nat.zero_le _))))
  obtain ⟨ep, gone⟩ : ∃ ep, (s.heap.update a (Obj.mapSeq fun _ => #[])).get? a = some (seqObj "list" #[] ep) := ⟨_, get?_update_seq there _⟩
  refine wpAny_bind (seqEpoch_at gone rfl (wpAny_bind (wpAny_newTuple ?_ (by show vs.length ≤ _; exact zl))))
  refine wpAny_bind (wpAny_newList (wpAny_holding ?_) (Nat.zero_le _))
  have kept : KeptB a s.heap (((s.heap.update a (Obj.mapSeq fun _ => #[])).push (seqObj "tuple" vs.toArray 0)).push (seqObj "list" #[] 0)) := fun b o ne e => Heap.get?_push_of_some _ (Heap.get?_push_of_some _ (by rw [Heap.get?_update_ne _ _ _ _ ne]; exact e))
  have now : (((s.heap.update a (Obj.mapSeq fun _ => #[])).push (seqObj "tuple" vs.toArray 0)).push (seqObj "list" #[] 0)).get? a = some (seqObj "list" #[] ep) := Heap.get?_push_of_some _ (Heap.get?_push_of_some _ gone)
  show wpAny (model prog w) A _ P E { s with heap := _ }
  dsimp only
  by_cases two : vs.toArray.size < 2
  · rw [if_pos two, if_pos two]
    refine wpAny_bind (wpAny_pure ?_)
    rw [StateT.run_pure]
    refine wpAny_bind (wpAny_pure ?_)
    dsimp only
    have e0 : ((vs.toArray.zip vs.toArray).map (·.2)) = ((List.range vs.length).toArray.toList.map fun i => vs.getD i Value.none).toArray := by
      apply Array.ext'
      simp only [Array.toList_map, Array.toList_zip, List.toList_toArray]
      rw [List.map_snd_zip (Nat.le_refl _)]
      apply List.ext_getElem?
      intro i
      rw [List.getElem?_map]
      by_cases hi : i < vs.length
      · rw [List.getElem?_range hi, List.getElem?_eq_getElem hi]
        simp [hi]
      · rw [List.getElem?_eq_none (by omega), List.getElem?_eq_none (by rw [List.length_range]; omega)]
        rfl
    refine wpAny_bind (seqEpoch_at now rfl (wpAny_bind (listUpdate_at now rfl ?_ (Nat.zero_le _) (by
      show ((vs.toArray.zip vs.toArray).map (·.2)).size ≤ _
      rw [Array.size_map, Array.size_zip, List.size_toArray, Nat.min_self]
      omega))))
    simp only [bne_self_eq_false, Bool.false_eq_true, if_false]
    have f0 := fin (List.range vs.length).toArray (Array.Perm.refl _) fun i j ij jl => by
      rw [List.size_toArray] at two
      rw [show i = j by omega]
      exact Int.le_refl _
    rw [← e0] at f0
    exact wpAny_pure f0
  · rw [if_neg two, if_neg two]
    rw [List.size_toArray] at two
    obtain ⟨fs, tups, fl, nums⟩ := ty _ kept
    refine wpAny_bind (kat_kind (T := .type "int") tups (by omega) (fun v hv => by obtain ⟨i, t, rfl⟩ := nums v hv; exact Looks.of_pure rfl) rfl ?_)
    have run := Srt.conv (Q := fun p s' => s' = { s with heap := (((s.heap.update a (Obj.mapSeq fun _ => #[])).push (seqObj "tuple" vs.toArray 0)).push (seqObj "list" #[] 0)) } ∧ Srt.Ord vs.length p ∧ Srt.Up rk p vs.length) (ask _ kept) (kas_sort vs.length) (Srt.sort (by omega))
    refine wpAny_bind (wpAny_mono (kat_run (Q := fun st' s' => s' = { s with heap := (((s.heap.update a (Obj.mapSeq fun _ => #[])).push (seqObj "tuple" vs.toArray 0)).push (seqObj "list" #[] 0)) } ∧ ∃ p : Array Nat, Srt.Ord vs.length p ∧ Srt.Up rk p vs.length ∧ arrOf st' = p.map (kas_item (vs.toArray.zip vs.toArray)) ∧ failedOf st' = none)
      rfl (by omega) few (fun p st' s' _ b1 b2 g => ⟨g.1, p, g.2.1, g.2.2, b1, b2⟩) run) ?_ fun _ _ z => z)
    rintro ⟨⟨⟩, st'⟩ s' ⟨rfl, p, o, u, b1, b2⟩
    dsimp only
    have e1 := kat_snds (ks := vs) (vs := vs) rfl b1
    rw [e1]
    refine wpAny_bind (seqEpoch_at now rfl (wpAny_bind (listUpdate_at now rfl ?_ (Nat.zero_le _) (by
      show (List.toArray (p.toList.map fun i => vs.getD i Value.none)).size ≤ _
      rw [List.size_toArray, List.length_map, Array.length_toList, o.size]
      omega))))
    rw [b2]
    simp only [bne_self_eq_false, Bool.false_eq_true, if_false]
    exact wpAny_pure (fin p o u)
theorem sorted_at {l : Addr} {vs : List Value} {Q : Value → Shared → Prop} {rk : Nat → Int} (hl : s.heap.IsList l vs.toArray) (few : vs.length < 64)
    (ty : ∀ g : Heap, (∀ b o, s.heap.get? b = some o → g.get? b = some o) → ∃ fs, KatTups g vs fs ∧ fs.length = vs.length ∧ ∀ v ∈ fs, ∃ i t, v = .int i t)
    (ask : ∀ (B : Around) (g : Heap), (∀ b o, s.heap.get? b = some o → g.get? b = some o) → ∀ i j C, i < vs.length → j < vs.length → C (decide (rk i < rk j)) { s with heap := g } → kas_ask prog w B (tuples' true) vs i j C { s with heap := g })
    (fin : ∀ p : Array Nat, Srt.Ord vs.length p → Srt.Up rk p vs.length → Q (.ref (s.heap.objs.size + 1)) { s with heap := sortedAll s.heap vs (p.toList.map fun i => vs.getD i Value.none).toArray }) :
    wpAny (model prog w) A (call (.builtin "sorted") [.ref l]) Q E s := by
  have zl : vs.length ≤ sizeLine := by rw [sizeLine_eq]; omega
  refine Calls.call_function_entry kind_sorted plain_sorted entry_sorted (args_sorted1 _) ?_
  unfold Builtin.«sorted»
  refine wpAny_bind (m := checkCount "sorted" 1 1 _) (wpAny_pure (wpAny_bind (collect_list hl (wpAny_bind (wpAny_newList ?_ zl)) zl)))
  have z1 : ((s.heap.push (seqObj "list" #[] 0)).update s.heap.objs.size (Obj.mapSeq (· ++ vs.toArray))).objs.size = s.heap.objs.size + 1 := by rw [Heap.size_update, size_push']
  have new : (((s.heap.push (seqObj "list" #[] 0)).update s.heap.objs.size (Obj.mapSeq (· ++ vs.toArray))).push (seqObj "list" vs.toArray 0)).get? (s.heap.objs.size + 1) = some (seqObj "list" vs.toArray 0) := by
    rw [← z1]
    exact Heap.get?_push_size _ rfl
  have old : ∀ b o, s.heap.get? b = some o → (((s.heap.push (seqObj "list" #[] 0)).update s.heap.objs.size (Obj.mapSeq (· ++ vs.toArray))).push (seqObj "list" vs.toArray 0)).get? b = some o := fun b o e => Heap.get?_push_of_some _ (by
    rw [Heap.get?_update_ne _ _ _ _ (Nat.ne_of_lt (Heap.lt_size e))]
    exact Heap.get?_push_of_some _ e)
  have ne : ∀ b o, s.heap.get? b = some o → b ≠ s.heap.objs.size + 1 := fun b o e => Nat.ne_of_lt (Nat.lt_succ_of_lt (Heap.lt_size e))
  show wpAny _ _ _ _ _ { s with heap := _ }
  rw [z1]
  refine wpAny_bind (wpAny_holding (wpAny_call_entry slot_list_sort ⟨_, new, rfl⟩ entry_list_sort (sort_at (rk := rk) new few (fun g k => ty g fun b o e => k b o (ne b o e) (old b o e)) (fun g k => ask _ g fun b o e => k b o (ne b o e) (old b o e)) fun p o u => ⟨_, rfl, wpAny_pure ⟨_, rfl, fin p o u⟩⟩) (args_list_sort _)))
end
theorem paired_get {R : Addr → Int × Int → Prop} : ∀ {ts : List Addr} {cs : List (Int × Int)}, Paired R ts cs → ts.length = cs.length ∧ ∀ i, i < ts.length → R (ts.getD i 0) (cs.getD i (0, 0))
  | _, _, .nil => ⟨rfl, fun i h => absurd h (Nat.not_lt_zero _)⟩
  | _, _, .cons (l₁ := ts) (l₂ := cs) r t => by
    obtain ⟨a, b⟩ := paired_get t
    refine ⟨by rw [List.length_cons, List.length_cons, a], fun i h => ?_⟩
    cases i with
    | zero => exact r
    | succ i => exact b i (Nat.lt_of_succ_lt_succ h)
theorem paired_map {α β γ : Type} {R : β → γ → Prop} {f : α → β} {g : α → γ} : ∀ l : List α, (∀ i ∈ l, R (f i) (g i)) → Paired R (l.map f) (l.map g)
  | [], _ => .nil
  | i :: l, h => .cons (h i List.mem_cons_self) (paired_map l fun j hj => h j (List.mem_cons_of_mem _ hj))
theorem map_getD {α : Type} (d : α) (l : List α) : (List.range l.length).map (fun i => l.getD i d) = l := by
  apply List.ext_getElem?
  intro i
  rw [List.getElem?_map]
  by_cases hi : i < l.length
  · rw [List.getElem?_range hi, List.getElem?_eq_getElem hi]
    simp [hi]
  · rw [List.getElem?_eq_none (by rw [List.length_range]; omega), List.getElem?_eq_none (by omega)]
    rfl
theorem vals_refs : ∀ {ts : List Addr} {its : List Value}, Vals (ts.map V.ref) its → its = ts.map Value.ref
  | [], _, .nil => rfl
  | t :: ts, _, .cons r q => by
    cases r
    rw [vals_refs q]
    rfl
theorem refs_vals : ∀ ts : List Addr, Vals (ts.map V.ref) (ts.map Value.ref)
  | [] => .nil
  | _ :: ts => .cons rfl (refs_vals ts)
/-- a pair of whole numbers lies there -/
noncomputable def PrIs (h : Heap) (t : Addr) (c : Int × Int) : Prop := ∃ (t1 t2 : Tok) (o : Obj) (n : Nat), h.get? t = some o ∧ o.cls = .type "tuple" ∧ o.data = .seq (List.toArray [Value.int c.1 t1, Value.int c.2 t2]) n
theorem PrIs.tups {h : Heap} : ∀ {ts : List Addr} {cs : List (Int × Int)}, Paired (PrIs h) ts cs → ∃ fs, PySem.W.KatTups h (ts.map Value.ref) fs ∧ fs.length = (ts.map Value.ref).length ∧ ∀ v ∈ fs, ∃ i t, v = Value.int i t
  | _, _, .nil => ⟨[], PySem.W.KatTups.nil, rfl, fun v hv => by cases hv⟩
  | _, _, .cons (l₁ := ts) r t => by
    obtain ⟨fs, a, b, c⟩ := PrIs.tups t
    obtain ⟨t1, t2, o, n, h1, h2, h3⟩ := r
    refine ⟨Value.int _ t1 :: fs, PySem.W.KatTups.cons h1 h2 h3 rfl a, by rw [List.map_cons, List.length_cons, List.length_cons, b], fun v hv => ?_⟩
    rcases List.mem_cons.mp hv with rfl | hv
    · exact ⟨_, _, rfl⟩
    · exact c v hv
inductive rSortP (K : PySem.W.Frag) (xs : List V) (H : Hp) (Q : VK) : Prop
  | mk (l : Addr) (ts : List Addr) (cs : List (Int × Int)) (h0 : xs = [.ref l]) (h1 : SqL K H l (ts.map V.ref)) (h2 : Paired (fun t c => SqT K H t [.int c.1, .int c.2]) ts cs) (h3 : ts.length < 64) (h4 : ∀ c ∈ cs, inP c)
      (h5 : ∀ (D : Addr) (us : List Addr) (ds : List (Int × Int)), H D = none → ds.Perm cs → ds.Pairwise (fun a b => rkP a ≤ rkP b) → us.length = ts.length → (∀ R : Addr → Int × Int → Prop, Paired R ts cs → Paired R us ds) → Q (.ref D) (upd H D (.lst (us.map V.ref)))) : rSortP K xs H Q
section
variable {X : Cx}
theorem call_sortP : CallR X (.builtin "sorted") (rSortP X.K) := by
  intro pins s σ H xs us Q I r h
  obtain ⟨l, ts, cs, rfl, hl, tp, few, bnd, q⟩ := h
  obtain ⟨u, rfl, ru⟩ := vals1 r
  cases ru
  obtain ⟨its, v, P1, z1⟩ := I.list hl
  rw [vals_refs v] at P1
  rw [List.length_map] at z1
  obtain ⟨tl, tg⟩ := paired_get tp
  have pi : ∀ t c, SqT X.K H t [.int c.1, .int c.2] → PrIs s.heap t c := fun t c ht => by
    obtain ⟨its, v, ⟨o, h1, h2, n, h3⟩, _⟩ := I.tuple ht
    obtain ⟨a, b, rfl, ⟨t1, rfl⟩, ⟨t2, rfl⟩⟩ := v.two
    exact ⟨t1, t2, o, n, h1, h2, h3⟩
  have pp : Paired (PrIs s.heap) ts cs := Paired.mapP tp pi
  have keepP : ∀ g : Heap, (∀ b o, s.heap.get? b = some o → g.get? b = some o) → ∀ t c, PrIs s.heap t c → PrIs g t c := fun g k t c ⟨t1, t2, o, n, h1, h2, h3⟩ => ⟨t1, t2, o, n, k _ _ h1, h2, h3⟩
  have gd : ∀ i, i < ts.length → (ts.map Value.ref).getD i Value.none = Value.ref (ts.getD i 0) := fun i hi => by simp [hi]
  have hcs : ∀ i, i < ts.length → inP (cs.getD i (0, 0)) := fun i hi => by
    have hi2 : i < cs.length := by omega
    have e : cs.getD i (0, 0) = cs[i] := by simp [hi2]
    rw [e]
    exact bnd _ (List.getElem_mem hi2)
  refine sorted_at (rk := fun i => rkP (cs.getD i (0, 0))) P1.isList (by rw [List.length_map]; exact few) (fun g k => PrIs.tups (Paired.mapP pp (keepP g k))) (fun B g k i j C hi hj hC => ?_) (fun p o up => ?_)
  · rw [List.length_map] at hi hj
    have a1 := (paired_get (Paired.mapP pp (keepP g k))).2 i hi
    have a2 := (paired_get (Paired.mapP pp (keepP g k))).2 j hj
    obtain ⟨t1, t2, o1, n1, b1, _, b3⟩ := a1
    obtain ⟨u1, u2, o2, n2, d1, _, d3⟩ := a2
    unfold PySem.W.kas_ask
    rw [gd i hi, gd j hj]
    exact PySem.W.kat_lt b1 b3 d1 d3 (ask_pair (hcs i hi) (hcs j hj) hC)
  · rw [List.length_map] at o up
    have pl : p.toList.Perm (List.range ts.length) := by
      have := Array.perm_iff_toList_perm.mp o
      simpa using this
    have lt : ∀ i ∈ p.toList, i < ts.length := fun i hi => List.mem_range.mp (pl.mem_iff.mp hi)
    have ev : (p.toList.map fun i => (ts.map Value.ref).getD i Value.none) = (p.toList.map fun i => ts.getD i 0).map Value.ref := by
      rw [List.map_map]
      exact List.map_congr_left fun i hi => gd i (lt i hi)
    have ul : (p.toList.map fun i => ts.getD i 0).length = ts.length := by rw [List.length_map, Array.length_toList, o.size]
    obtain ⟨c', hc'⟩ := sortedAll_at s.heap (ts.map Value.ref) (p.toList.map fun i => (ts.map Value.ref).getD i Value.none).toArray
    refine ⟨.ref (s.heap.objs.size + 1), upd H (s.heap.objs.size + 1) (.lst ((p.toList.map fun i => ts.getD i 0).map V.ref)), I.laid (t' := s.toks) (fun b ob e => sortedAll_old e) (Nat.le_succ _) (show ObjOk X.prog X.w _ _ _ (.lst _) from ⟨by rw [List.length_map, ul]; exact z1, _, c', refs_vals _, by rw [← ev]; exact hc'⟩), rfl, ?_⟩
    refine q _ _ (p.toList.map fun i => cs.getD i (0, 0)) (I.hok.fresh (Nat.le_succ _)) ?_ ?_ ul fun R hR => ?_
    · have := pl.map fun i => cs.getD i (0, 0)
      rw [tl, map_getD] at this
      exact this
    · rw [List.pairwise_map, List.pairwise_iff_getElem]
      intro i j hi hj hij
      have hi' : i < p.size := by simpa using hi
      have hj' : j < p.size := by simpa using hj
      have := up i j (Nat.le_of_lt hij) (by rw [← o.size]; exact hj')
      unfold Srt.ky at this
      rw [show p.getD i 0 = p.toList[i] by simp [Array.getD, hi'], show p.getD j 0 = p.toList[j] by simp [Array.getD, hj']] at this
      exact this
    · have g := (paired_get hR).2
      exact paired_map _ fun i hi => g i (lt i hi)
end
end L2

set_option maxHeartbeats 1000000
namespace L2
open PySem PySem.Spec PyProof.Rows
/-! ### a lambda, called -/
theorem lam_run {CX : CXT} {P : Program} {w : World} {K : PySem.W.Frag} {mg : Str → Option Value} {base : Heap} {k : Nat} {q c' : Addr} {name qual : Str} {params : Arguments} {body : Expr} {scope : Scope} {pm ctv : Value} {N ps : List Str} {A : Around} {outer : List Env} {s : Shared} {H : Hp} {args : Args}
    {us : List Value} {vs : List V} {Q : VK} {E : XK} {t : TE} (ho : s.heap.get? q = some (PySem.W.kla_obj name qual params body scope [] pm c' ctv)) (hcd : s.heap.CodeRec (.ref c') qual) (S : FnScope N ps scope) (hr : Room (k + 1) A) (e0 : Env0 P w K mg base A outer s H)
    (hb : BindsTo s (PySem.W.kla_fn name qual params body scope [] pm (.ref c') ctv) args (ps.zip us)) (r : Vals vs us) (hl : vs.length = ps.length)
    (ht : Room k (A.deeper (envOfC qual scope s.heap.objs.size q (.ref c'))) → PE (cxOf CX P w K mg base N qual scope q (.ref c') A outer s H E) body t) (hq : t (start N vs) H Q) :
    codeAny (model P w) A (.call (.ref q) args) (CR CX outer P w H s Q E) s := by
  have KX : K.In s.heap := e0.mod.kin.keeps fun b o e => (e0.bs b o e).1
  have lim : s.heap.NoLimit := e0.mod.nolimit.keeps fun b o e => (e0.bs b o e).1
  have hkind : ∀ y ∈ ps.zip us, scope.names.lookup y.1 = some .local ∨ (scope.names.lookup y.1 = some .cell ∧ ((cellsFrom (s.heap.objs.size + 1) scope.names []).lookup y.1).isSome = true) := fun ⟨n, v⟩ hy => by
    rcases S.par n (List.of_mem_zip hy).1 with q | q
    · exact .inl q
    · exact .inr ⟨q, PySem.W.cellsFrom_some _ _ _ (.inl q)⟩
  refine PySem.W.kla_callFunE hr.depth ho rfl S.co S.gen rfl hcd (hb _ _ _ _ ?_)
  refine wpAny_newFunctionEnv_cells S.kind hkind fun env he s1 x => ?_
  subst he
  refine ⟨lim.keeps x.toInCall.keep, PySem.W.kla_codeExpr ?_⟩
  have I : Inv (cxOf CX P w K mg base N qual scope q (.ref c') A outer s H E) [] (start N vs) H s1 := inv_start S hr.hd e0 hl r x
  refine wpAny_mono (ht (hr.deeper _) [] s1 (start N vs) H _ I hq) (fun u s' hs => ?_) fun e s' hs => hs
  obtain ⟨v, H', J, rv, q'⟩ := hs
  exact ⟨v, H', J.os, J.bare, J.base, J.hok, rv, q'⟩
/-! ### a lambda, made -/
/-- what the top tells of a def that makes a lambda: its code, the code's table; the builtins' module -/
noncomputable def BmB (mg : Str → Option Value) (base : Heap) : Prop := ∃ (bm : Addr) (ob : Obj), mg "__builtins__" = some (.ref bm) ∧ bm ≠ builtinsNs ∧ bm ≠ mainGlobals ∧ base.get? bm = some ob ∧ ob.cls = .type "module" ∧ ob.dict = some builtinsNs ∧ ob.data = .plain
structure LamT (K : PySem.W.Frag) (mg : Str → Option Value) (base : Heap) (c P : Addr) : Prop where
  hd : PySem.W.codeHdIn K c P = true
  bm : BmB mg base
noncomputable def CodO (c' : Addr) (qual : Str) : HO := .ext fun h => h.CodeRec (.ref c') qual
/-- the table: empty, or with the lambda's code -/
noncomputable def TabAt (P : Addr) (pos : Pos) (qual : Str) (H : Hp) : Prop := H P = some (.tbl #[]) ∨ ∃ c' : Addr, H P = some (.tbl #[rawInt pos.line, rawInt pos.col, .ref c']) ∧ H c' = some (CodO c' qual)
theorem codO_ok {P : Program} {w : World} {H : Hp} {h : Heap} {c' : Addr} {qual : Str} (x : h.CodeRec (.ref c') qual) : ObjOk P w H h c' (CodO c' qual) := by
  have st : ∀ h1 h2 : Heap, h1.CodeRec (.ref c') qual → (∀ o, h1.get? c' = some o → h2.get? c' = some o) → h2.CodeRec (.ref c') qual := fun h1 h2 ⟨c, oc, vs, tq, e, g, d, v⟩ k => by
    cases e
    exact ⟨_, oc, vs, tq, rfl, k _ g, d, v⟩
  refine ⟨x, ?_, st⟩
  obtain ⟨c, oc, vs, tq, e, g, d, v⟩ := x
  cases e
  exact ⟨oc, g⟩
section
variable {X : Cx} {pins : List (Addr × Obj)} {σ : St} {H : Hp} {s : Shared} {c P : Addr} {params : Arguments} {body : Expr} {scope : Scope} {pos : Pos}
theorem lam_eval {A : Around} {E : Value → Shared → Prop} (I : Inv X pins σ H s) (L : LamT X.K X.mg X.base c P) (hcode : X.env.code = .ref c) (hcl : closureFor scope X.env = pure []) (hdef : defaultsOf params X.env = ([], [])) (tb : TabAt P pos (X.env.qual ++ "<lambda>") H) :
    wpAny (model X.prog X.w) A (eval (.Lambda params body scope pos) X.env) (fun v s' => ∃ (q c' : Addr) (ctv : Value) (H' : Hp), v = .ref q ∧ Inv X pins σ H' s' ∧ s'.heap.get? q = some (PySem.W.kla_obj "<lambda>" (X.env.qual ++ "<lambda>") params body scope [] ((X.mg "__name__").getD .none) c' ctv) ∧
      H' q = none ∧ H' c' = some (CodO c' (X.env.qual ++ "<lambda>")) ∧ s.heap.objs.size ≤ q ∧ (∀ b o, b ≠ P → H b = some o → H' b = some o) ∧ (∀ b, H' b = none → H b = none) ∧ TabAt P pos (X.env.qual ++ "<lambda>") H') E s := by
  have C : PySem.W.CodeHd s.heap c P := PySem.W.codeHd_of_K I.kIn L.hd
  have G : s.heap.Ns mainGlobals X.mg := I.ok.mod.glob.keeps I.bk
  have hP : ∃ ps, H P = some (.tbl ps) := by
    rcases tb with e | ⟨_, e, _⟩ <;> exact ⟨_, e⟩
  have bsn : ∀ b o, X.base.get? b = some o → b ≠ P := fun b o e z => by
    obtain ⟨ps, hps⟩ := hP
    have := (I.bs b o e).2
    rw [z, hps] at this
    cases this
  have B : s.heap.BuiltinsAt X.mg P := by
    obtain ⟨bm, ob, e1, e2, e3, e4, e5, e6, e7⟩ := L.bm
    exact ⟨bm, ob, e1, e2, e3, bsn bm ob e4, I.bk _ _ e4, e5, e6, e7⟩
  have gP : mainGlobals ≠ P := by
    obtain ⟨o, es, ep, e, _⟩ := I.ok.mod.glob
    exact bsn _ o e
  refine PySem.W.kla_eval hdef ?_
  rcases tb with e | ⟨c', e, ec⟩
  · have hp0 : s.heap.get? P = some (PySem.W.tabObj #[]) := I.hok P _ e
    refine PySem.W.kla_makeFunction (mg := X.mg) hcl I.ok.glob G hcode C hp0 trivial (by rfl) gP B fun c' ctv h' tk hx hge hlt hrec htb => ?_
    have sz : s.heap.objs.size < h'.objs.size := Nat.lt_of_le_of_lt hge hlt
    have hcn : H c' = none := I.hok.fresh hge
    have hqn : H h'.objs.size = none := I.hok.fresh (Nat.le_of_lt sz)
    have ncP : c' ≠ P := fun z => by rw [z, e] at hcn; cases hcn
    have nqP : h'.objs.size ≠ P := fun z => by rw [z, e] at hqn; cases hqn
    have nqc : h'.objs.size ≠ c' := Nat.ne_of_gt hlt
    obtain ⟨ps, hps⟩ : ∃ ps : Array Value, (#[] : Array Value) ++ #[rawInt pos.line, rawInt pos.col, .ref c'] = ps := ⟨_, rfl⟩
    have hps' : ps = #[rawInt pos.line, rawInt pos.col, .ref c'] := by rw [← hps]; rfl
    rw [hps] at htb
    have up : ∀ b o, b ≠ P → b ≠ c' → upd (upd H P (.tbl ps)) c' (CodO c' (X.env.qual ++ "<lambda>")) b = some o → H b = some o := fun b o h1 h2 z => by
      rw [upd_ne h2, upd_ne h1] at z
      exact z
    have dn : ∀ b o, b ≠ P → H b = some o → upd (upd H P (.tbl ps)) c' (CodO c' (X.env.qual ++ "<lambda>")) b = some o := fun b o h1 z => by
      rw [upd_ne (fun y => by rw [y, hcn] at z; cases z), upd_ne h1]
      exact z
    have hPP : upd (upd H P (.tbl ps)) c' (CodO c' (X.env.qual ++ "<lambda>")) P = some (.tbl ps) := by rw [upd_ne (Ne.symm ncP), upd_same]
    have keep : ∀ b o, b ≠ P → s.heap.get? b = some o → (h'.push (PySem.W.kla_obj "<lambda>" (X.env.qual ++ "<lambda>") params body scope [] ((X.mg "__name__").getD .none) c' ctv)).get? b = some o := fun b o h1 z => Heap.get?_push_of_some _ (hx b o h1 z)
    have nP : ∀ b, H b = none → b ≠ P := fun b n z => by rw [z, e] at n; cases n
    have un : Un X.fs [] H (upd (upd H P (.tbl ps)) c' (CodO c' (X.env.qual ++ "<lambda>"))) s.heap (h'.push (PySem.W.kla_obj "<lambda>" (X.env.qual ++ "<lambda>") params body scope [] ((X.mg "__name__").getD .none) c' ctv)) := by
      refine ⟨fun b o z n _ _ => keep b o (nP b n) z, fun b o z n _ _ => ⟨o.slots, keep b o (nP b n) z⟩, fun b o z n _ => ?_, fun b o z _ => ?_, fun b xs z => dn b _ (fun y => by rw [y, e] at z; cases z) z, fun b o u z => dn b _ (fun y => by rw [y, e] at z; cases z) z, fun b qs z => ?_⟩
      · rw [upd_ne (Nat.ne_of_lt (Nat.lt_of_lt_of_le (Heap.lt_size z) hge)), upd_ne (nP b n)]
        exact n
      · by_cases y : b = P
        · exact ⟨_, by rw [y]; exact Heap.get?_push_of_some _ htb⟩
        · exact ⟨o, keep b o y z⟩
      · by_cases y : b = P
        · subst y
          rw [e] at z
          cases z
          exact ⟨_, by rw [hPP, ← hps]⟩
        · exact ⟨#[], by rw [dn b _ y z]; simp⟩
    have hok : HOk X.prog X.w (upd (upd H P (.tbl ps)) c' (CodO c' (X.env.qual ++ "<lambda>"))) (h'.push (PySem.W.kla_obj "<lambda>" (X.env.qual ++ "<lambda>") params body scope [] ((X.mg "__name__").getD .none) c' ctv)) := fun b u z => by
      by_cases y1 : b = c'
      · subst y1
        rw [upd_same] at z
        cases z
        refine codO_ok ?_
        obtain ⟨c, oc, vs, tq, e1, g, d, v⟩ := hrec
        exact ⟨c, oc, vs, tq, e1, Heap.get?_push_of_some _ g, d, v⟩
      · by_cases y2 : b = P
        · subst y2
          rw [hPP] at z
          cases z
          exact Heap.get?_push_of_some _ htb
        · refine (I.hok b u (up b u y2 y1 z)).stay (fun d v hd g => keep d v ?_ g) (fun d g => dn d _ (fun y => by rw [y, e] at g; cases g) g) fun d xs g => dn d _ (fun y => by rw [y, e] at g; cases g) g
          rcases hd with rfl | hd
          · exact y2
          · exact fun y => by rw [y, e] at hd; cases hd
    refine ⟨h'.objs.size, c', ctv, _, rfl, I.un (t' := tk) un hok, Heap.get?_push_size _ rfl, ?_, upd_same, Nat.le_of_lt sz, fun b o h1 z => dn b o h1 z, fun b z => ?_, .inr ⟨c', ?_, upd_same⟩⟩
    · rw [upd_ne nqc, upd_ne nqP]
      exact hqn
    · by_cases y1 : b = c'
      · rw [y1]; exact hcn
      · by_cases y2 : b = P
        · rw [y2, hPP] at z; cases z
        · rw [upd_ne y1, upd_ne y2] at z; exact z
    · rw [hPP, hps']
  · have hp0 : s.heap.get? P = some (PySem.W.tabObj #[rawInt pos.line, rawInt pos.col, .ref c']) := I.hok P _ e
    refine PySem.W.kla_makeFunctionHit (mg := X.mg) (cv := .ref c') hcl I.ok.glob G hcode C hp0 (show TriplesOk ([] : List Value) from trivial) (codeAmong_snoc (pos := pos) (c := .ref c') [] trivial rfl) B fun ctv h' tk hk hsz => ?_
    have hqn : H h'.objs.size = none := I.hok.fresh hsz
    exact ⟨h'.objs.size, c', ctv, H, rfl, I.kept (t' := tk) (fun b o z => Heap.get?_push_of_some _ (hk b o z)), Heap.get?_push_size _ rfl, hqn, ec, hsz, fun b o _ z => z, fun b z => z, .inr ⟨c', e, ec⟩⟩
end
end L2

set_option maxHeartbeats 1000000
namespace L2
open PySem PySem.Spec PyProof.Rows
/-! ### min(xs, key = ..) by pairs of whole numbers -/
noncomputable def lt2 (p q : Int × Int) : Prop := p.1 < q.1 ∨ (p.1 = q.1 ∧ p.2 < q.2)
theorem lexLt2 (p q : Int × Int) : HT.lexLt [p.1, p.2] [q.1, q.2] = true ↔ lt2 p q := by
  rw [HT.lexLt_cons]
  unfold lt2
  by_cases h : p.1 = q.1
  · rw [if_pos h, HT.lexLt_cons]
    by_cases g : p.2 = q.2
    · rw [if_pos g, HT.lexLt_nil_nil]
      constructor
      · intro z; cases z
      · intro z; omega
    · rw [if_neg g]
      constructor
      · intro z; exact .inr ⟨h, of_decide_eq_true z⟩
      · intro z; exact decide_eq_true (by omega)
  · rw [if_neg h]
    constructor
    · intro z; exact .inl (of_decide_eq_true z)
    · intro z; exact decide_eq_true (by omega)
section
variable {X : Cx} {pins : List (Addr × Obj)} {σ : St} {H H0 : Hp} {s0 : Shared} {l q I S : Addr} {ts : List Addr} {ks : Nat → Int × Int} {oq : Obj} {R : Result → Shared → Prop}
/-- an address beyond -/
theorem Inv.beyond (I0 : Inv X pins σ H0 s0) {b : Addr} (h : s0.heap.objs.size ≤ b) : b ∉ frs X.stack ∧ b ≠ X.env.locals ∧ (∀ x c, X.env.cells.lookup x = some c → c ≠ b) ∧ (∀ p ∈ X.pn ++ pins, p.1 ≠ b) ∧ X.s₀.heap.objs.size ≤ b := by
  have hl : b ≠ X.env.locals := fun z => by
    have := I0.lt
    rw [z] at h
    exact absurd (Nat.lt_of_lt_of_le this h) (Nat.lt_irrefl _)
  refine ⟨fun z => ?_, hl, fun x c e z => ?_, fun p hp z => ?_, Nat.le_trans I0.sz h⟩
  · rcases List.mem_cons.mp (I0.stkSub b z) with y | y
    · exact hl y
    · exact I0.nofs h y
  · obtain ⟨v, o, ho, _⟩ := I0.cell x c e
    rw [z] at ho
    exact absurd (Nat.lt_of_lt_of_le (Heap.lt_size ho) h) (Nat.lt_irrefl _)
  · have := (I0.pin p hp).1
    rw [z] at this
    exact absurd (Nat.lt_of_lt_of_le (Heap.lt_size this) h) (Nat.lt_irrefl _)
/-- what a turn gives -/
noncomputable def TurnOk (X : Cx) (pins : List (Addr × Obj)) (σ : St) (H : Hp) (q : Addr) (oq : Obj) (ts : List Addr) (ks : Nat → Int × Int) : Prop :=
  ∀ (i : Nat) (t : Addr), ts[i]? = some t → ∀ (H1 : Hp) (s1 : Shared), Inv X pins σ H1 s1 → Same H H1 → s1.heap.get? q = some oq → H1 q = none →
    wpAny (model X.prog X.w) X.A.in1 (call (.ref q) [.ref t]) (fun v s2 => ∃ (p : Addr) (H2 : Hp), v = .ref p ∧ Inv X pins σ H2 s2 ∧ Un (frs X.stack) [] H1 H2 s1.heap s2.heap ∧ Same H1 H2 ∧ H2 p = some (.tup [.int (ks i).1, .int (ks i).2])) (fun _ _ => False) s1
theorem refs_of : ∀ {ts : List Addr} {us : List Value}, Vals (ts.map V.ref) us → us = ts.map Value.ref
  | [], _, .nil => rfl
  | t :: ts, _, .cons r rs => by
    cases r
    rw [List.map_cons, refs_of rs]
theorem isList_of {H1 : Hp} {s1 : Shared} (J : Inv X pins σ H1 s1) (hl : H1 l = some (.lst (ts.map V.ref))) : s1.heap.IsList l (ts.map Value.ref).toArray := by
  obtain ⟨its, rv, ⟨o, n, e, c, _, d⟩, _⟩ := J.list (SqL.of hl)
  rw [refs_of rv] at d
  exact ⟨o, e, c, n, d⟩
theorem min_loop (hh : X.A.handled = none) (hu : X.A.in1.units < cLine) (I0 : Inv X pins σ H0 s0) (hl : H l = some (.lst (ts.map V.ref))) (turn : TurnOk X pins σ H q oq ts ks) (hI : s0.heap.objs.size ≤ I) (hS : s0.heap.objs.size ≤ S) (hq : s0.heap.objs.size ≤ q) (hlI : l ≠ I) (hSI : S ≠ I) (hqI : q ≠ I) (hqS : q ≠ S)
    (hR : ∀ i t H' s', ts[i]? = some t → (∀ j, j < ts.length → ¬ lt2 (ks j) (ks i)) → Inv X pins σ H' s' → Same H H' → R (.ok (.ret (.ref t))) s') :
    ∀ (r j i : Nat) (H1 : Hp) (s1 : Shared) (tb kb : Addr) (c : Nat), ts.length - (j + 1) = r → j + 1 ≤ ts.length → Inv X pins σ H1 s1 → Same H H1 → H1 I = none → H1 S = none → H1 q = none → s1.heap.get? q = some oq → s1.heap.get? S = some (seqObj "list" #[.ref tb, .ref kb] c) →
      H1 kb = some (.tup [.int (ks i).1, .int (ks i).2]) → s1.heap.IsListIter I l (j + 1) → ts[i]? = some tb → (∀ j', j' ≤ j → ¬ lt2 (ks j') (ks i)) →
      codeAny (model X.prog X.w) X.A (.builtin "min.loop" ⟨[.ref I, .ref q, .ref S], []⟩) R s1 := by
  have hname : (toString "min" ++ toString ".loop" : String) = "min.loop" := by decide
  have W := Walks.list (prog := X.prog) (w := X.w) (A := X.A.in1) hh I l hlI (ts.map Value.ref).toArray
  have hsz : (ts.map Value.ref).toArray.size = ts.length := by rw [List.size_toArray, List.length_map]
  have bI := I0.beyond hI
  have bS := I0.beyond hS
  have bq := I0.beyond hq
  have turnI : ∀ {H1 : Hp} {s1 : Shared} {h' : Heap} {tk : Nat}, Inv X pins σ H1 s1 → H1 I = none → (∀ b o, b ∉ [I] → s1.heap.get? b = some o → h'.get? b = some o) → Inv X pins σ H1 { s1 with heap := h', toks := tk } := fun J n k =>
    J.turned (fun b o hb e => k b o (by simpa using hb) e) n bI.2.1 (.inr bI.2.2.2.2) bI.2.2.1 bI.2.2.2.1
  have turnS : ∀ {H1 : Hp} {s1 : Shared} {h' : Heap} {tk : Nat}, Inv X pins σ H1 s1 → H1 S = none → Heap.SameBut S s1.heap h' → Inv X pins σ H1 { s1 with heap := h', toks := tk } := fun J n k =>
    J.turned (fun b o hb e => (k.2 b hb).trans e) n bS.2.1 (.inr bS.2.2.2.2) bS.2.2.1 bS.2.2.2.1
  intro r
  induction r with
  | zero =>
    intro j i H1 s1 tb kb c hr hj J sm nI nS nq eq eS ek hit htb best
    have hin : j + 1 = ts.length := by omega
    refine codeAny_builtin PySem.F.entry_min_loop ?_
    rw [Around.under_plainId PySem.F.plain_min_loop _]
    show wpAny _ X.A.in1 (seqItems? (.ref S) >>= _) _ _ _
    refine wpAny_bind (wpAny_seqItems eS rfl ?_)
    show wpAny _ X.A.in1 (tryCatch (pyNext (.ref I)) _ >>= _) _ _ _
    refine wpAny_bind (wpAny_tryCatch (W.done _ _ _ ⟨by rw [hsz, ← hin]; exact hit, isList_of J (sm _ _ hl)⟩ fun h' tk' hk' => ?_))
    have J1 := turnI (tk := tk') J nI hk'
    have hS' := hk' S _ (by simpa using hSI) eS
    have sb := Heap.SameBut.update h' S (Obj.mapSeq fun _ => (#[] : Array Value))
    show wpAny _ X.A.in1 (updateSeq S (fun _ => #[]) >>= _) _ _ _
    refine wpAny_bind ?_
    refine wpAny_updateSeq hS' rfl (wpAny_bind (wpAny_letGo (wpAny_pure ?_)))
    exact hR i tb H1 _ htb (fun j' hj' => best j' (by omega)) (turnS J1 nS sb) sm
  | succ r ih =>
    intro j i H1 s1 tb kb c hr hj J sm nI nS nq eq eS ek hit htb best
    have hlt : j + 1 < ts.length := by omega
    refine codeAny_builtin PySem.F.entry_min_loop ?_
    rw [Around.under_plainId PySem.F.plain_min_loop _]
    show wpAny _ X.A.in1 (seqItems? (.ref S) >>= _) _ _ _
    refine wpAny_bind (wpAny_seqItems eS rfl ?_)
    show wpAny _ X.A.in1 (tryCatch (pyNext (.ref I)) _ >>= _) _ _ _
    refine wpAny_bind (wpAny_tryCatch (W.item (j + 1) _ _ _ (by rw [hsz]; exact hlt) ⟨hit, isList_of J (sm _ _ hl)⟩ fun v h' tk' hP hst' hk' => ?_))
    obtain ⟨t, ht⟩ : ∃ t, ts[j + 1]? = some t := ⟨_, List.getElem?_eq_getElem hlt⟩
    have hv : v = .ref t := by
      have hP' : (ts.map Value.ref).toArray[j + 1]? = some v := by simpa using hP
      rw [List.getElem?_toArray, List.getElem?_map, ht] at hP'
      exact (Option.some.inj hP').symm
    subst hv
    have J1 := turnI (tk := tk') J nI hk'
    have eS1 := hk' S _ (by simpa using hSI) eS
    have eq1 := hk' q _ (by simpa using hqI) eq
    show wpAny _ X.A.in1 (tryCatch (holding [.ref t] (call (.ref q) [.ref t])) _ >>= _) _ _ _
    refine wpAny_bind (wpAny_tryCatch (wpAny_holding (wpAny_mono (turn (j + 1) t ht H1 _ J1 sm eq1 nq) (fun x s2 he => ?_) fun _ _ hF => hF.elim)))
    obtain ⟨p, H2, rfl, J2, un, sm2, ep⟩ := he
    have eS2 := un.keep S _ eS1 nS bS.1 (by simp)
    have nS2 := un.free S _ eS1 nS (by simp)
    have eq2 := un.keep q _ eq1 nq bq.1 (by simp)
    have nq2 := un.free q _ eq1 nq (by simp)
    obtain ⟨oI', hoI', hoc, hod⟩ := id hst'.1
    have eI2 := un.keep I _ hoI' nI bI.1 (by simp)
    have nI2 := un.free I _ hoI' nI (by simp)
    have hit2 : s2.heap.IsListIter I l (j + 1 + 1) := ⟨oI', eI2, hoc, hod⟩
    have ek2 := sm2 _ _ ek
    obtain ⟨its1, rv1, tp1, _⟩ := J2.tuple (SqT.of ep)
    obtain ⟨its2, rv2, tp2, _⟩ := J2.tuple (SqT.of ek2)
    have i1 : IntsAre its1.toArray.toList [(ks (j + 1)).1, (ks (j + 1)).2] := intsAre_of (ns := [(ks (j + 1)).1, (ks (j + 1)).2]) rv1
    have i2 : IntsAre its2.toArray.toList [(ks i).1, (ks i).2] := intsAre_of (ns := [(ks i).1, (ks i).2]) rv2
    show wpAny _ X.A.in1 (tryCatch (holding [.ref t, .ref p] (richCompare .Lt (.ref p) (.ref kb) >>= _)) _ >>= _) _ _ _
    refine wpAny_bind (wpAny_tryCatch (wpAny_holding (wpAny_bind (HT.lt_tupInts tp1 tp2 i1 i2 hu ?_))))
    refine wpAny_bind (wpAny_holding (wpAny_truthy_bool ?_))
    refine wpAny_bind (wpAny_letGo (wpAny_pure ?_))
    by_cases hb : lt2 (ks (j + 1)) (ks i)
    · rw [(lexLt2 _ _).mpr hb]
      have sb := Heap.SameBut.update s2.heap S (Obj.mapSeq fun _ => #[.ref t, .ref p])
      obtain ⟨c2, hc2⟩ : ∃ c2, (s2.heap.update S (Obj.mapSeq fun _ => #[.ref t, .ref p])).get? S = some (seqObj "list" #[.ref t, .ref p] c2) := ⟨_, get?_update_seq eS2 fun _ => #[.ref t, .ref p]⟩
      simp only [if_true]
      refine wpAny_bind ?_
      refine wpAny_updateSeq eS2 rfl (wpAny_bind (wpAny_letGo ?_))
      rw [hname]
      refine wpAny_pure ⟨plainId_quiet PySem.F.plain_min_loop _, ih (j + 1) (j + 1) H2 _ t p c2 (by omega) hlt (turnS (tk := s2.toks) J2 nS2 sb) (sm.trans sm2) nI2 nS2 nq2 ((sb.2 q hqS).trans eq2) hc2 ep ⟨oI', (sb.2 I hSI.symm).trans eI2, hoc, hod⟩ ht fun j' hj' => ?_⟩
      by_cases e : j' = j + 1
      · subst e
        unfold lt2
        omega
      · have b1 := best j' (by omega)
        unfold lt2 at b1 hb ⊢
        omega
    · have hf : HT.lexLt [(ks (j + 1)).1, (ks (j + 1)).2] [(ks i).1, (ks i).2] = false := by
        cases z : HT.lexLt [(ks (j + 1)).1, (ks (j + 1)).2] [(ks i).1, (ks i).2] with
        | false => rfl
        | true => exact absurd ((lexLt2 _ _).mp z) hb
      rw [hf]
      simp only [Bool.false_eq_true, if_false]
      refine wpAny_bind (wpAny_letGo ?_)
      rw [hname]
      refine wpAny_pure ⟨plainId_quiet PySem.F.plain_min_loop _, ih (j + 1) i H2 _ tb kb c (by omega) hlt J2 (sm.trans sm2) nI2 nS2 nq2 eq2 eS2 ek2 hit2 htb fun j' hj' => ?_⟩
      by_cases e : j' = j + 1
      · subst e
        exact hb
      · exact best j' (by omega)
end
end L2

set_option maxHeartbeats 1000000
namespace L2
open PySem PySem.Spec PyProof.Rows
section
variable {X : Cx} {pins : List (Addr × Obj)} {σ : St} {H H0 : Hp} {s s0 : Shared} {l q : Addr} {ts : List Addr} {ks : Nat → Int × Int} {oq : Obj} {Q : Value → Shared → Prop} {E : Value → Shared → Prop}
theorem min_lam (hh : X.A.handled = none) (hu : X.A.in1.units < cLine) (J : Inv X pins σ H s) (I0 : Inv X pins σ H0 s0) (hss : s0.heap.objs.size ≤ s.heap.objs.size) (hl : H l = some (.lst (ts.map V.ref))) (hne : 0 < ts.length) (turn : TurnOk X pins σ H q oq ts ks) (hq : s0.heap.objs.size ≤ q) (eq : s.heap.get? q = some oq) (nq : H q = none)
    (hQ : ∀ i t H' s', ts[i]? = some t → (∀ j, j < ts.length → ¬ lt2 (ks j) (ks i)) → Inv X pins σ H' s' → Same H H' → Q (.ref t) s') :
    wpAny (model X.prog X.w) X.A (call (.builtin "min") [.ref l] [(Str.ofString "key", .ref q)]) Q E s := by
  have hname : (toString "min" ++ toString ".loop" : String) = "min.loop" := by decide
  have hls := isList_of J hl
  obtain ⟨ol, hol, _⟩ := id hls
  have hll : l < s.heap.objs.size := Heap.lt_size hol
  have hqq : q < s.heap.objs.size := Heap.lt_size eq
  refine kmk_tree PySem.F.kind_min PySem.F.plain_min PySem.F.entry_min (kmk_min_key _ _) ?_
  show wpAny _ X.A.in1 (Builtin.Builtins.bindParams "min" ["key", "default"] 0 ⟨[], [(Str.ofString "key", .ref q)]⟩ >>= _) _ _ s
  refine wpAny_bind (wpAny_of_eq (show Builtin.Builtins.bindParams "min" ["key", "default"] 0 ⟨[], [(Str.ofString "key", .ref q)]⟩ = pure [some (.ref q), none] from rfl) ?_)
  refine wpAny_bind (wpAny_pure ?_)
  refine wpAny_bind (wpAny_pyIter_list hls ?_)
  refine wpAny_bind (wpAny_newList ?_ (Nat.zero_le _))
  rw [hname]
  have hS : (s.heap.push { cls := .type "list_iterator", data := .fields #[.ref l, .int 0 0] }).objs.size = s.heap.objs.size + 1 := size_push' ..
  have hlI : l ≠ s.heap.objs.size := Nat.ne_of_lt hll
  have hSI : (s.heap.push { cls := .type "list_iterator", data := .fields #[.ref l, .int 0 0] }).objs.size ≠ s.heap.objs.size := by rw [hS]; exact Nat.ne_of_gt (Nat.lt_succ_self _)
  have hqI : q ≠ s.heap.objs.size := Nat.ne_of_lt hqq
  have hqS : q ≠ (s.heap.push { cls := .type "list_iterator", data := .fields #[.ref l, .int 0 0] }).objs.size := by rw [hS]; exact Nat.ne_of_lt (Nat.lt_succ_of_lt hqq)
  have hI0 : s0.heap.objs.size ≤ s.heap.objs.size := hss
  have hS0 : s0.heap.objs.size ≤ (s.heap.push { cls := .type "list_iterator", data := .fields #[.ref l, .int 0 0] }).objs.size := by rw [hS]; exact Nat.le_succ_of_le hss
  have nI : H s.heap.objs.size = none := J.hok.fresh (Nat.le_refl _)
  have nS : H (s.heap.push { cls := .type "list_iterator", data := .fields #[.ref l, .int 0 0] }).objs.size = none := J.hok.fresh (by rw [hS]; exact Nat.le_succ _)
  have kp : ∀ b o, s.heap.get? b = some o → ((s.heap.push { cls := .type "list_iterator", data := .fields #[.ref l, .int 0 0] }).push (seqObj "list" #[] 0)).get? b = some o := fun b o e => Heap.get?_push_of_some _ (Heap.get?_push_of_some _ e)
  refine wpAny_pure ⟨plainId_quiet PySem.F.plain_min_loop _, ?_⟩
  have gI : ((s.heap.push { cls := .type "list_iterator", data := .fields #[.ref l, .int 0 0] }).push (seqObj "list" #[] 0)).get? s.heap.objs.size = some { cls := .type "list_iterator", data := .fields #[.ref l, .int 0 0] } :=
    Heap.get?_push_of_some _ (Heap.get?_push_size _ rfl)
  have gS : ((s.heap.push { cls := .type "list_iterator", data := .fields #[.ref l, .int 0 0] }).push (seqObj "list" #[] 0)).get? (s.heap.push { cls := .type "list_iterator", data := .fields #[.ref l, .int 0 0] }).objs.size = some (seqObj "list" #[] 0) := Heap.get?_push_size _ rfl
  have W := Walks.list (prog := X.prog) (w := X.w) (A := X.A.in1) hh s.heap.objs.size l hlI (ts.map Value.ref).toArray
  have hsz : (ts.map Value.ref).toArray.size = ts.length := by rw [List.size_toArray, List.length_map]
  have J0 : Inv X pins σ H { s with heap := (s.heap.push { cls := .type "list_iterator", data := .fields #[.ref l, .int 0 0] }).push (seqObj "list" #[] 0) } := J.kept (t' := s.toks) kp
  have bI := I0.beyond hI0
  have bS := I0.beyond hS0
  have bq := I0.beyond hq
  generalize hSa : (s.heap.push { cls := .type "list_iterator", data := .fields #[.ref l, .int 0 0] }).objs.size = S at *
  generalize hIa : s.heap.objs.size = I at *
  refine codeAny_builtin PySem.F.entry_min_loop ?_
  rw [Around.under_plainId PySem.F.plain_min_loop _]
  show wpAny _ X.A.in1 (seqItems? (.ref _) >>= _) _ _ _
  refine wpAny_bind (wpAny_seqItems gS rfl ?_)
  show wpAny _ X.A.in1 (tryCatch (pyNext (.ref I)) _ >>= _) _ _ _
  refine wpAny_bind (wpAny_tryCatch (W.item 0 _ _ _ (by rw [hsz]; exact hne) ⟨⟨_, gI, rfl, rfl⟩, isList_of J0 hl⟩ fun v h' tk' hP hst' hk' => ?_))
  obtain ⟨t, ht⟩ : ∃ t, ts[0]? = some t := ⟨_, List.getElem?_eq_getElem hne⟩
  have hv : v = .ref t := by
    have hP' : (ts.map Value.ref).toArray[0]? = some v := by simpa using hP
    rw [List.getElem?_toArray, List.getElem?_map, ht] at hP'
    exact (Option.some.inj hP').symm
  subst hv
  obtain ⟨oI', hoI', hoc, hod⟩ := id hst'.1
  have J1 := Inv.turned (h' := h') (t' := tk') (it := I) J0 (fun b o hb e => hk' b o (by simpa using hb) e) nI bI.2.1 (.inr bI.2.2.2.2) bI.2.2.1 bI.2.2.2.1
  have eS1 := hk' S _ (by simpa using hSI) gS
  have eq1 := hk' q _ (by simpa using hqI) (kp q _ eq)
  show wpAny _ X.A.in1 (tryCatch (holding [.ref t] (call (.ref q) [.ref t])) _ >>= _) _ _ _
  refine wpAny_bind (wpAny_tryCatch (wpAny_holding (wpAny_mono (turn 0 t ht H _ J1 (Same.refl _) eq1 nq) (fun x s2 he => ?_) fun _ _ hF => hF.elim)))
  obtain ⟨p, H2, rfl, J2, un, sm2, ep⟩ := he
  have eS2 := un.keep S _ eS1 nS bS.1 (by simp)
  have nS2 := un.free S _ eS1 nS (by simp)
  have eq2 := un.keep q _ eq1 nq bq.1 (by simp)
  have nq2 := un.free q _ eq1 nq (by simp)
  have eI2 := un.keep I _ hoI' nI bI.1 (by simp)
  have nI2 := un.free I _ hoI' nI (by simp)
  have sb := Heap.SameBut.update s2.heap S (Obj.mapSeq fun _ => #[.ref t, .ref p])
  obtain ⟨c2, hc2⟩ : ∃ c2, (s2.heap.update S (Obj.mapSeq fun _ => #[.ref t, .ref p])).get? S = some (seqObj "list" #[.ref t, .ref p] c2) := ⟨_, get?_update_seq eS2 fun _ => #[.ref t, .ref p]⟩
  have J3 : Inv X pins σ H2 { s2 with heap := s2.heap.update S (Obj.mapSeq fun _ => #[.ref t, .ref p]) } := J2.turned (t' := s2.toks) (fun b o hb e => (sb.2 b hb).trans e) nS2 bS.2.1 (.inr bS.2.2.2.2) bS.2.2.1 bS.2.2.2.1
  show wpAny _ X.A.in1 (updateSeq S (fun _ => #[.ref t, .ref p]) >>= _) _ _ _
  refine wpAny_bind ?_
  refine wpAny_updateSeq eS2 rfl ?_
  rw [hname]
  refine wpAny_pure ⟨plainId_quiet PySem.F.plain_min_loop _, min_loop hh hu I0 hl turn hI0 hS0 hq hlI hSI hqI hqS hQ _ 0 0 H2 _ t p c2 rfl hne J3 sm2 nI2 nS2 nq2 ((sb.2 q hqS).trans eq2) hc2 ep ⟨oI', (sb.2 I hSI.symm).trans eI2, hoc, hod⟩ ht fun j' hj' => ?_⟩
  have e : j' = 0 := by omega
  subst e
  unfold lt2
  omega
end
/-! ### min(e, key = lambda cell: (cell[1], cell[0])) -/
noncomputable def MinB (P : Addr) (lpos : Pos) (qual : Str) (Q : VK) (v : V) (H1 : Hp) : Prop := ∃ (l : Addr) (ts : List Addr) (cs : List (Int × Int)), v = .ref l ∧ H1 l = some (.lst (ts.map V.ref)) ∧ (∀ (i : Nat) (t : Addr), ts[i]? = some t → ∃ c : Int × Int, cs[i]? = some c ∧ H1 t = some (.tup [.int c.1, .int c.2])) ∧ ts.length = cs.length ∧ 0 < ts.length ∧ TabAt P lpos qual H1 ∧
  ∀ (i : Nat) (t : Addr) (c : Int × Int) (H' : Hp), ts[i]? = some t → cs[i]? = some c → (∀ d ∈ cs, ¬ lt2 (d.2, d.1) (c.2, c.1)) → (∀ b o, b ≠ P → H1 b = some o → H' b = some o) → TabAt P lpos qual H' → Q (.ref t) H'
noncomputable def tMinL (P : Addr) (lpos : Pos) (qual : Str) (te : TE) : TE := fun σ H Q => te σ H (MinB P lpos qual Q)
theorem TabAt.same {P : Addr} {lpos : Pos} {qual : Str} {H H' : Hp} (h : TabAt P lpos qual H) (s : Same H H') : TabAt P lpos qual H' := by
  rcases h with e | ⟨c', e, ec⟩
  · exact .inl (s _ _ e)
  · exact .inr ⟨c', s _ _ e, s _ _ ec⟩
theorem TabAt.tbl {P : Addr} {lpos : Pos} {qual : Str} {H : Hp} (h : TabAt P lpos qual H) : ∃ ps, H P = some (.tbl ps) := by
  rcases h with e | ⟨_, e, _⟩ <;> exact ⟨_, e⟩
section
variable {X : Cx} {c P : Addr} {e body : Expr} {params : Arguments} {scope : Scope} {p lpos kp pos : Pos} {te t : TE}
theorem pe_minL (hg : Gl X "min") (hm : X.mg "min" = none) (he : PE X e te) (L : LamT X.K X.mg X.base c P) (hcode : X.env.code = .ref c) (hcalm : X.calm = true) (hr : Room 2 X.A) (hcl : closureFor scope X.env = pure []) (hdef : defaultsOf params X.env = ([], [])) (S : FnScope ["cell"] ["cell"] scope)
    (hb : ∀ s u pm (c' : Addr) ctv, BindsTo s (PySem.W.kla_fn "<lambda>" (X.env.qual ++ "<lambda>") params body scope [] pm (.ref c') ctv) ⟨[u], []⟩ [("cell", u)])
    (hbody : ∀ (CX : CXT) (A : Around) (outer : List Env) (s : Shared) (H : Hp) (E : XK) (q c' : Addr), PE (cxOf CX X.prog X.w X.K X.mg X.base ["cell"] (X.env.qual ++ "<lambda>") scope q (.ref c') A outer s H E) body t)
    (ht : ∀ (H : Hp) (Q : VK) (a : Addr) (x y : Int), H a = some (.tup [.int x, .int y]) → (∀ p, H p = none → Q (.ref p) (upd H p (.tup [.int y, .int x]))) → t [some (.ref a)] H Q)
    (hs : starEach [e] X.env = (false, eval e X.env) :: starEach [] X.env := by rfl) (hpl : (backTo pos (starEach [e] X.env)).any (·.1) = false := by rfl) (he2 : backTo pos (starEach [e] X.env) = (false, eval e X.env) :: backTo pos (starEach [] X.env) := by rfl) :
    PE X (.Call (.Name "min" p) [e] [⟨some "key", .Lambda params body scope lpos, kp⟩] pos) (tMinL P lpos (X.env.qual ++ "<lambda>") te) := by
  intro pins s σ H Q I h
  refine wpAny_Call_Name_kw (ld_blt I hg hm (show bootBuiltins "min" = some (.builtin "min") by decide +kernel) ?_)
  refine callWith_kw (thn ((pa_cons he pa_nil hs) pos pins s σ H (fun xs H1 => match xs with | [v] => MinB P lpos (X.env.qual ++ "<lambda>") Q v H1 | _ => False) I h) fun us s1 ⟨vs, H1, I1, r1, q1⟩ => ?_) he2 hpl
  match vs, r1, q1 with
  | [], _, q1 => exact q1.elim
  | _ :: _ :: _, _, q1 => exact q1.elim
  | [v], .cons rv .nil, ⟨l, ts, cs, ev, hl, hp, hlen, hne, tab, hQ⟩ =>
  subst ev
  cases rv
  refine kws_cons (wpAny_mono (lam_eval (E := X.xe) I1 L hcode hcl hdef tab) (fun v s2 hv => ?_) fun _ _ z => z)
  obtain ⟨q, c', ctv, H2, rfl, J2, eq, nq, ec, hq, hkeep, hfree, tab2⟩ := hv
  refine kws_nil ?_
  show wpAny (model X.prog X.w) X.A (call (.builtin "min") [.ref l] [(Str.ofString "key", .ref q)]) _ _ s2
  obtain ⟨pt, ept⟩ := tab.tbl
  have nlP : l ≠ P := fun z => by rw [z, ept] at hl; cases hl
  have ntP : ∀ t x, H1 t = some (.tup x) → t ≠ P := fun t x e z => by rw [z, ept] at e; cases e
  have hss : s1.heap.objs.size ≤ s2.heap.objs.size := Nat.le_of_lt (Nat.lt_of_le_of_lt hq (Heap.lt_size eq))
  have ksE : ∀ (i : Nat) (cc : Int × Int), cs[i]? = some cc → ((cs.getD i (0, 0)).2, (cs.getD i (0, 0)).1) = (cc.2, cc.1) := fun i cc hc => by rw [List.getD_eq_getElem?_getD, hc]; rfl
  refine min_lam (ks := fun i => ((cs.getD i (0, 0)).2, (cs.getD i (0, 0)).1)) (I1.ok.hd hcalm) (show X.A.units + 1 < cLine by have := hr.un; omega) J2 I1 hss (hkeep _ _ nlP hl) hne ?_ hq eq nq ?_
  · intro i t hti H3 s3 J3 sm3 eq3 nq3
    obtain ⟨cc, hcc, htup⟩ := hp i t hti
    have ht3 := sm3 _ _ (hkeep _ _ (ntP _ _ htup) htup)
    have hcr : s3.heap.CodeRec (.ref c') (X.env.qual ++ "<lambda>") := (J3.hok c' _ (sm3 _ _ ec)).1
    refine wpAny_call (codeAny_mono (lam_run (CX := fun _ _ _ _ _ _ => False) (k := 0) (E := fun _ _ _ => False) (N := ["cell"]) (ps := ["cell"]) (us := [.ref t]) (vs := [.ref t]) (Q := fun v H' => ∃ p, v = .ref p ∧ Same H3 H' ∧ H' p = some (.tup [.int cc.2, .int cc.1])) eq3 hcr S hr.in1 J3.env0.in1 (hb _ _ _ _ _) (.cons rfl .nil) rfl (fun _ => hbody _ _ _ _ _ _ _ _) (ht _ _ t cc.1 cc.2 ht3 fun p hpn => ⟨p, rfl, fun b o e => (by rw [upd_ne (ne_of_none e hpn)]; exact e), upd_same⟩)) fun r s' hs' => ?_)
    cases r with
    | error ev => exact False.elim hs'
    | ok fl =>
      cases fl with
      | next => exact False.elim hs'
      | brk => exact False.elim hs'
      | cont => exact False.elim hs'
      | ret u =>
        obtain ⟨v, H', os, bare, un, hok, rv, p, ev, sm, ep⟩ := hs'
        subst ev
        cases rv
        obtain ⟨hh, g, d, tk, os'⟩ := s'
        obtain rfl : os' = s3.os := os
        refine ⟨p, H', rfl, J3.call (h' := hh) (g' := g) (d' := d) (t' := tk) (ch := []) un hok bare (fun b z => absurd z (by simp)), un, sm, ?_⟩
        have e3 : cs.getD i (0, 0) = cc := by rw [List.getD_eq_getElem?_getD, hcc]; rfl
        dsimp only
        rw [e3]
        exact ep
  · intro i t H' s' hti best J' sm'
    obtain ⟨cc, hcc, _⟩ := hp i t hti
    refine ⟨.ref t, H', J', rfl, hQ i t cc H' hti hcc (fun d hd => ?_) (fun b o hb e => sm' _ _ (hkeep b o hb e)) (tab2.same sm')⟩
    obtain ⟨j, hj, ej⟩ := List.getElem_of_mem hd
    have b1 := best j (by rw [hlen]; exact hj)
    have e1 := ksE j d (by rw [List.getElem?_eq_getElem hj, ej])
    have e2 := ksE i cc hcc
    show ¬ lt2 (d.2, d.1) (cc.2, cc.1)
    rw [← e1, ← e2]
    exact b1
end
end L2

set_option maxHeartbeats 1000000
namespace L2
open PySem PySem.Spec PyProof.Rows
/-! ### the head of a law whose defs make lambdas: the tables at tabs are tracked -/
noncomputable def TabsK (K : PySem.W.Frag) (tabs : List Addr) : Prop := ∀ P ∈ tabs, K.lookup P = none ∧ ∃ c, PySem.W.codeHdIn K c P = true
theorem law_callT {P : Program} {w : World} {K : PySem.W.Frag} {mg mb : Str → Option Value} {CX : CXT} {k : Nat} {fa a : Addr} {fd : FuncData} {x : Str} {sp : Sp} {s₁ : Shared} {vs : List Value} {ns : List Int} {tabs : List Addr}
    (KX : K.In s₁.heap) (hns : s₁.heap.Ns mainGlobals mg) (hb : s₁.heap.Ns builtinsNs mb) (hbb : ∀ x : Str, x ≠ "__name__" → mb x = bootBuiltins x) (hlim : s₁.heap.NoLimit) (hg : s₁.gens = #[])
    (ha : s₁.heap.get? a = some { cls := .type "list", data := .seq vs.toArray }) (hi : IntsAre vs ns) (hl : ns.length ≤ sizeLine) (hr : Room k callerA)
    (ht : ∀ T ∈ tabs, s₁.heap.get? T = some (PySem.W.tabObj #[])) (hK : TabsK K tabs) (hbm : BmB mg s₁.heap)
    (F : ∀ base : Heap, K.In base → base.Ns mainGlobals mg → BmB mg base → FnOk P w K mg base CX k fa fd [x] sp) (hbind : ∀ (s : Shared) (u : Value), BindsTo s fd ⟨[u], []⟩ [(x, u)])
    (hsp : ∀ H : Hp, (∀ T ∈ tabs, H T = some (.tbl #[])) → SqL K H a (ns.map V.int) → sp [.ref a] H (fun v _ => v = .bl true) fun _ _ _ => False)
    (hCX : ∀ H e s', CX [] H s₁ (fun _ _ _ => False) e s' → False) :
    codeAny (model P w) callerA (.call (.ref fa) ⟨[.ref a], []⟩) (fun r s' => r = .ok (.ret (.bool true)) ∧ OldK s₁.heap s'.heap ∧ s'.os = s₁.os ∧ AllBare s'.gens) s₁ := by
  have rv := vals_ints hi
  have lenV := hi.length
  have aT : ∀ T ∈ tabs, T ≠ a := fun T hT z => by
    have e := ht T hT
    rw [z, ha] at e
    cases e
  have core : ∀ H : Hp, (∀ b, H b = none ∨ (b = a ∧ ∃ o xs, H b = some (.frz o (.lst xs))) ∨ (b ∈ tabs ∧ H b = some (.tbl #[]))) → (∀ T ∈ tabs, H T = some (.tbl #[])) → SqL K H a (ns.map V.int) → HOk P w H s₁.heap → (H a ≠ none → K.lookup a = none) →
      codeAny (model P w) callerA (.call (.ref fa) ⟨[.ref a], []⟩) (fun r s' => r = .ok (.ret (.bool true)) ∧ OldK s₁.heap s'.heap ∧ s'.os = s₁.os ∧ AllBare s'.gens) s₁ := by
    intro H hO hT hS hok hKa
    have base_of : ∀ {b : Addr} {o : Obj}, s₁.heap.get? b = some o → H b = none → (hidT s₁.heap H).get? b = some o := fun e n => hidT_get e n
    have noA : ∀ {b : Addr} {o : Obj} {es : Array DictEntry} {ep : Nat}, s₁.heap.get? b = some o → o.data = .dict es ep → H b = none := fun {b o es ep} e d => by
      rcases hO b with z | ⟨z, _⟩ | ⟨z, _⟩
      · exact z
      · rw [z, ha] at e
        cases e
        have d' : Data.seq vs.toArray _ = Data.dict es ep := d
        cases d'
      · rw [ht b z] at e
        cases e
        have d' : Data.fields _ = Data.dict es ep := d
        cases d'
    have nsK : ∀ {b : Addr} {m : Str → Option Value}, s₁.heap.Ns b m → (hidT s₁.heap H).Ns b m := fun {b m} ⟨o, es, ep, e, d, r⟩ => ⟨o, es, ep, base_of e (noA e d), d, r⟩
    have hKb : K.In (hidT s₁.heap H) := fun b o e => base_of (KX b o e) (by
      rcases hO b with z | ⟨z, u, xs, y⟩ | ⟨z, _⟩
      · exact z
      · rw [z] at e y
        rw [hKa (by rw [y]; simp)] at e
        cases e
      · rw [(hK b z).1] at e
        cases e)
    have hBm : BmB mg (hidT s₁.heap H) := by
      obtain ⟨bm, ob, e1, e2, e3, e4, e5, e6, e7⟩ := hbm
      refine ⟨bm, ob, e1, e2, e3, base_of e4 ?_, e5, e6, e7⟩
      rcases hO bm with z | ⟨z, _⟩ | ⟨z, _⟩
      · exact z
      · rw [z, ha] at e4
        cases e4
        cases e7
      · rw [ht bm z] at e4
        cases e4
        cases e7
    have hM : Mod K mg (hidT s₁.heap H) := ⟨hKb, nsK hns, ⟨mb, nsK hb, hbb⟩, let ⟨mc, h1, h2⟩ := hlim; ⟨mc, nsK h1, h2⟩⟩
    have e0 : Env0 P w K mg (hidT s₁.heap H) callerA [] s₁ H := ⟨rfl, hM, fun b o e => of_hidT e, Nat.le_of_eq (hidT_size _ _), trivial, fun b hb => absurd (show b ∈ ([] : List Addr) from hb) (by simp), hok, .of_eq hg⟩
    refine codeAny_mono ((F _ hKb (nsK hns) hBm).run callerA [] s₁ H ⟨[.ref a], []⟩ [.ref a] [.ref a] _ _ hr e0 (hbind s₁ (.ref a)) (.cons rfl .nil) (hsp H hT hS)) fun r s' h => ?_
    cases r with
    | error e => exact (hCX H e s' h).elim
    | ok fl =>
      cases fl with
      | next => exact False.elim h
      | brk => exact False.elim h
      | cont => exact False.elim h
      | ret u =>
        obtain ⟨v, H', os, bare, un, hok', r', q⟩ := h
        have q' : v = .bl true := q
        subst q'
        obtain rfl : u = Value.bool true := r'
        refine ⟨rfl, ⟨fun b o e => ?_, fun b o e => un.there b o e (by simp)⟩, os, bare⟩
        rcases hO b with z | ⟨z, ob, xs, y⟩ | ⟨z, y⟩
        · exact .inl (un.keep b o e z (by intro z; exact absurd (show b ∈ ([] : List Addr) from z) (by simp)) (by simp))
        · have z2 := un.frzs b ob _ y
          obtain ⟨e1, _⟩ := hok b _ y
          obtain ⟨e2, _⟩ := hok' b _ z2
          rw [e] at e1; cases e1
          exact .inl e2
        · obtain ⟨more, y2⟩ := un.tbls b _ y
          have e2 : s'.heap.get? b = some { cls := .none, data := .fields (#[] ++ more) } := hok' b _ y2
          obtain ⟨_, c, hc⟩ := hK b z
          have e1 := ht b z
          rw [e1] at e
          cases e
          exact .inr (.inl ⟨((PySem.W.codeHd_of_K KX hc).tab e1).isCodeTable, rfl, #[], more, rfl, e2⟩)
  cases hk : K.lookup a with
  | some o =>
    have e := KX a o hk
    rw [ha] at e
    cases e
    refine core (fun b => if b ∈ tabs then some (.tbl #[]) else none) (fun b => ?_) (fun T hT => if_pos hT) (.inr ⟨_, vs.toArray, _, hk, rfl, rfl, rfl, by rw [List.size_toArray, lenV]; exact hl, by simpa using rv⟩) (fun b u z => ?_) fun z => absurd (if_neg (fun y => aT a y rfl)) z
    · by_cases hb : b ∈ tabs
      · exact .inr (.inr ⟨hb, if_pos hb⟩)
      · exact .inl (if_neg hb)
    · by_cases hb : b ∈ tabs
      · have z' := (if_pos hb).symm.trans z
        cases z'
        exact ht b hb
      · have z' := (if_neg hb).symm.trans z
        cases z'
  | none =>
    refine core (fun b => if b = a then some (.frz { cls := .type "list", data := .seq vs.toArray } (.lst (ns.map V.int))) else if b ∈ tabs then some (.tbl #[]) else none) (fun b => ?_) (fun T hT => by rw [if_neg (aT T hT), if_pos hT]) (.inl (.inr ⟨{ cls := .type "list", data := .seq vs.toArray }, if_pos rfl⟩)) (fun b u z => ?_) fun _ => hk
    · by_cases hb : b = a
      · exact .inr (.inl ⟨hb, _, _, if_pos hb⟩)
      · by_cases hb2 : b ∈ tabs
        · exact .inr (.inr ⟨hb2, by rw [if_neg hb, if_pos hb2]⟩)
        · exact .inl (by rw [if_neg hb, if_neg hb2])
    · by_cases hb : b = a
      · have z' := (if_pos hb).symm.trans z
        cases z'
        subst hb
        exact ⟨ha, by rw [List.length_map]; exact hl, vs, _, rv, ha⟩
      · by_cases hb2 : b ∈ tabs
        · have z' := ((if_neg hb).trans (if_pos hb2)).symm.trans z
          cases z'
          exact ht b hb2
        · have z' := ((if_neg hb).trans (if_neg hb2)).symm.trans z
          cases z'
theorem bm_of {p : Program} {loose : List Str} {mean : ExcName → Option Value} {mg mb : Str → Option Value} {h : Heap} (T : PyProof.Rows.Top p loose mean mg mb h) : BmB mg h := by
  obtain ⟨bm, ob, b1, b2, b3, b4, b5, b6⟩ := T.bmain
  refine ⟨bm, ob, b1, b2, fun q => ?_, b3, b4, b5, b6⟩
  obtain ⟨o, es, ep, e, hd, _⟩ := T.g
  rw [q, e] at b3
  cases b3
  rw [hd] at b6
  cases b6
theorem walk_ofT {l : PySem.W.OpenLaw} {n k : Nat} {q : Program} {loose : List Str} {XP : (Str → Option Value) → Heap → Prop} {YP : World → Heap → Prop} {d : DefRec} {K : Params → PySem.W.Frag} {CX : World → CXT} {sp : World → Sp} {x : Str} {tabs : List Addr}
    (hn : l.most = some n) (hn2 : n ≤ sizeLine) (hdf : d.params.defaults = []) (hr : Room k callerA)
    (hY : ∀ (w : World) (h : Heap), YP w h → (K w.params).In h ∧ ∀ T ∈ tabs, h.get? T = some (PySem.W.tabObj #[]))
    (F : ∀ (w : World) (mg : Str → Option Value) (fa : Addr) (h : Heap), (K w.params).In h → h.Ns mainGlobals mg → mg d.name = some (.ref fa) →
      TabsK (K w.params) tabs ∧ ∃ fd : FuncData, (∀ (s : Shared) (u : Value), BindsTo s fd ⟨[u], []⟩ [(x, u)]) ∧
        ∀ base : Heap, (K w.params).In base → base.Ns mainGlobals mg → BmB mg base → FnOk l.prog w (K w.params) mg base (CX w) k fa fd [x] (sp w))
    (hsp : ∀ (w : World) (H : Hp) (a : Addr) (ns : List Int), ns.length ≤ n → (∀ T ∈ tabs, H T = some (.tbl #[])) → SqL (K w.params) H a (ns.map V.int) → sp w [.ref a] H (fun v _ => v = .bl true) fun _ _ _ => False)
    (hCX : ∀ (w : World) (H : Hp) (s : Shared) (e : Value) (s' : Shared), CX w [] H s (fun _ _ _ => False) e s' → False) :
    PySem.W.WalkO q loose XP YP l.row.toRowW d [] (fun f vs => PySem.call f vs) := by
  refine Att.attach_call hn hdf fun w s₀ s₁ mg mb fa o pm cd doc a vs ns G Y ho hd hcd hmg hobj hints hlen hg => ?_
  obtain ⟨KX, hT⟩ := hY w _ Y
  obtain ⟨hK, fd, hb, hF⟩ := F w mg fa _ KX G.T.g hmg
  exact law_callT KX G.T.g G.T.b G.T.builtins G.T.nolimit hg hobj hints (Nat.le_trans hlen hn2) hr hT hK (bm_of G.T) hF hb (fun H hO hS => hsp w H a ns hlen hO hS) fun H e s' => hCX w H s₁ e s'
end L2
namespace L2
open PySem PySem.Spec PySem.SeqAt PyProof.Rows
section
variable {X : Cx}
/-- x in a list of data; x not in it -/
noncomputable def rInD (K : PySem.W.Frag) (neg : Bool) : R2 := fun x y H Q => ∃ d es, Rp K H x d ∧ Rp K H y (.list es) ∧ SeqAt.shaped (.list es) = true ∧ SeqAt.shaped d = true ∧ Q (.bl (if neg then !(es.any fun z => PyData.eqv z d) else es.any fun z => PyData.eqv z d)) H
theorem op_inD (hu : X.A.units + 65 < cLine) : OpR X (compareOp .In) (rInD X.K false) := by
  intro pins s σ H x y v u Q I rx ry h
  obtain ⟨d, e, hd, he, se, sd, q⟩ := h
  obtain ⟨as, ra⟩ := hd.reads I rx
  obtain ⟨bs, rb⟩ := he.reads I ry
  exact in_list_reads rb ra (canLay_of_shaped se) (canLay_of_shaped sd) (room_in_shaped sd hu) ⟨.bl _, H, I, rfl, q⟩
theorem op_notInD (hu : X.A.units + 65 < cLine) : OpR X (compareOp .NotIn) (rInD X.K true) := by
  intro pins s σ H x y v u Q I rx ry h
  obtain ⟨d, e, hd, he, se, sd, q⟩ := h
  obtain ⟨as, ra⟩ := hd.reads I rx
  obtain ⟨bs, rb⟩ := he.reads I ry
  exact notIn_list_reads rb ra (canLay_of_shaped se) (canLay_of_shaped sd) (room_in_shaped sd hu) ⟨.bl _, H, I, rfl, q⟩
theorem Room.units65 {k : Nat} {A : Around} (r : Room k A) : A.units + 65 < cLine := by have := r.un; omega
end
end L2

set_option maxHeartbeats 1000000
namespace L2
open PySem PySem.Spec PyProof.Rows
/-! ### comprehensions that capture nothing; rules whose K is told -/
section
variable {X : Cx} {K : PySem.W.Frag} {a : Expr} {ta : TE}
theorem blk0 {scope : Scope} {own : List Str} (kind : scope.kind = .function) (h : (scope.names.all fun y => decide (y.2 ≠ .cell) && (decide (y.2 ≠ .free) && decide (y.2 = .local → scope.names.lookup y.1 = some .local))) = true) : BlkScope X scope own [] [] := by
  have g : ∀ y ∈ scope.names, y.2 ≠ .cell ∧ y.2 ≠ .free ∧ (y.2 = .local → scope.names.lookup y.1 = some .local) := fun y hy => by
    have := List.all_eq_true.mp h y hy
    rw [Bool.and_eq_true, Bool.and_eq_true] at this
    exact ⟨of_decide_eq_true this.1, of_decide_eq_true this.2.1, of_decide_eq_true this.2.2⟩
  exact ⟨kind, fun y hy => (g y hy).1, fun y hy => (g y hy).2.2, fun y hy e => absurd e (g y hy).2.1, rfl, fun y hy => by simp at hy⟩
theorem nd1 (x : Str) : [x].Nodup := by simp
theorem ix_tupK (h : X.K = K) : IxR X (rIxT K) := by subst h; exact ix_tup
theorem ix_listK (h : X.K = K) : IxR X (rIxL K) := by subst h; exact ix_list
theorem call_isiK (h : X.K = K) : CallR X (.builtin "isinstance") (rIsi K) := by subst h; exact call_isi
theorem pt_truthK (h : X.K = K) (ha : PE X a ta) (he : ∀ whole, isTrue a X.env whole = (do let v ← whole; standAt a.pos; holding [v] (truthy v))) : PT X a (fun σ H Q => ta σ H fun x H' => ∃ k, TruV K x H' k ∧ Q k H') := by subst h; exact pt_truth ha he
end
end L2
namespace Car
open PySem L2
noncomputable def top (i : Nat) : Stmt := PySem.Challenge.pw_carvebed_k41_why_a_cell_is_left.main.body.getD i (.Pass ⟨0, 0, 0, 0⟩)
theorem same_upd {H : Hp} {p : Addr} (h : H p = none) (o : HO) : Same H (upd H p o) := fun b u q => by rw [upd_ne (ne_of_none q h)]; exact q
section
variable {K : PySem.W.Frag} {H : Hp}
end
noncomputable def MvAt (H : Hp) : List Addr → List (List V) → Prop
  | [], [] => True
  | t :: ts, m :: ms => H t = some (.tup m) ∧ MvAt H ts ms
  | _, _ => False
theorem MvAt.upd {H : Hp} {q : Addr} {o : HO} (hq : ∀ m, H q ≠ some (.tup m)) : ∀ {ts : List Addr} {ms : List (List V)}, MvAt H ts ms → MvAt (upd H q o) ts ms
  | [], [], _ => True.intro
  | t :: ts, m :: ms, ⟨h, r⟩ => ⟨by rw [upd_ne (fun z => hq m (by rw [← z]; exact h))]; exact h, MvAt.upd hq r⟩
theorem MvAt.same {H H' : Hp} (s : Same H H') : ∀ {ts : List Addr} {ms : List (List V)}, MvAt H ts ms → MvAt H' ts ms
  | [], [], _ => True.intro
  | t :: ts, m :: ms, ⟨h, r⟩ => ⟨s _ _ h, MvAt.same s r⟩
theorem MvAt.snoc {H : Hp} {t : Addr} {m : List V} (h : H t = some (.tup m)) : ∀ {ts : List Addr} {ms : List (List V)}, MvAt H ts ms → MvAt H (ts ++ [t]) (ms ++ [m])
  | [], [], _ => ⟨h, True.intro⟩
  | t :: ts, m :: ms, ⟨h1, r⟩ => ⟨h1, MvAt.snoc h r⟩
theorem MvAt.len {H : Hp} : ∀ {ts : List Addr} {ms : List (List V)}, MvAt H ts ms → ts.length = ms.length
  | [], [], _ => rfl
  | t :: ts, m :: ms, ⟨_, r⟩ => by rw [List.length_cons, List.length_cons, r.len]
theorem same_in {H0 H : Hp} {q : Addr} {o : HO} (s : Same H0 H) (h : H0 q = none) : Same H0 (upd H q o) := fun b u e => by
  rw [upd_ne (ne_of_none e h)]
  exact s b u e
theorem line3 {n c : Nat} (h : n ≤ c) (h2 : c ≤ 2000) : n < sizeLine := Nat.lt_of_le_of_lt (Nat.le_trans h h2) (by decide)
noncomputable def Wd (n : Nat) (Pv : Nat → St → List V → Hp → Prop) (i m : Nat) (σ : St) (acc : List V) (H : Hp) : Prop := m = n - i ∧ i ≤ n ∧ Pv i σ acc H
theorem wd_next {n : Nat} {Pv : Nat → St → List V → Hp → Prop} {i : Nat} {σ : St} {acc : List V} {H : Hp} (h : i < n) (p : Pv (i + 1) σ acc H) : ∃ m', m' < n - i ∧ Wd n Pv (i + 1) m' σ acc H := ⟨n - (i + 1), by omega, rfl, h, p⟩
theorem lc_ask {K : PySem.W.Frag} {a : Addr} {xs : List V} {i : Nat} {H : Hp} {A : Prop} {B : V → Hp → Prop} (q : SqL K H a xs) (hi : i ≤ xs.length) (hs : ∀ x, xs[i]? = some x → i < xs.length → B x H) (hd : i = xs.length → A) :
    ((Itl K a).stop i H ∧ A) ∨ ((Itl K a).go i H ∧ ∀ x H', (Itl K a).yld i H x H' → B x H') := by
  by_cases hlt : i < xs.length
  · refine .inr ⟨⟨xs, xs[i], q, by simp [hlt]⟩, fun x H' y => ?_⟩
    obtain ⟨e, y⟩ := y
    subst e
    exact hs x (y xs q) hlt
  · exact .inl ⟨⟨xs, q, by omega⟩, hd (by omega)⟩
theorem wd_0 {n : Nat} {Pv : Nat → St → List V → Hp → Prop} {σ : St} {acc : List V} {H : Hp} (h : Pv 0 σ acc H) : ∃ m, Wd n Pv 0 m σ acc H := ⟨n, by simp, Nat.zero_le _, h⟩
end Car
namespace L2
open PySem PySem.Spec PyProof.Rows
/-- a statement and what must hold behind it, whatever way it went -/
noncomputable def tMid (t u : TS) : TS := fun D σ H => ∃ N : St → Hp → Prop, t { D with nx := N } σ H ∧ ∀ σ' H', N σ' H' → u D σ' H'
theorem pss_mid {X : Cx} {st : Stmt} {rest : List Stmt} {t u : TS} (h1 : PS X st t) (h2 : PSs X rest u) : PSs X (st :: rest) (tMid t u) := by
  intro pins s σ H D I ⟨N, h, hN⟩
  refine wpAny_execs_cons (thn (h1 pins s σ H { D with nx := N } I h) fun f s1 q => ?_)
  cases f with
  | next =>
    obtain ⟨σ', H', I', q⟩ := q
    exact h2 pins s1 σ' H' D I' (hN σ' H' q)
  | ret v => exact q
  | brk => exact q
  | cont => exact q
end L2
namespace L2
open PySem PySem.Spec PyProof.Rows
theorem drop_le {H : Hp} {d : Addr} : Same (drop H d) H := fun b o e => by
  by_cases hb : b = d
  · rw [hb, drop_same] at e; cases e
  · rw [drop_ne hb] at e; exact e
end L2
namespace Car
open PySem L2
theorem bt_max : bootBuiltins "max" = some (.builtin "max") := by decide +kernel
theorem bt_min : bootBuiltins "min" = some (.builtin "min") := by decide +kernel
theorem bt_isin : bootBuiltins "isinstance" = some (.builtin "isinstance") := by decide +kernel
theorem bt_tuple : bootBuiltins "tuple" = some (.type "tuple") := by decide +kernel
theorem bt_list : bootBuiltins "list" = some (.type "list") := by decide +kernel
theorem bt_bool : bootBuiltins "bool" = some (.type "bool") := by decide +kernel
theorem bt_int : bootBuiltins "int" = some (.type "int") := by decide +kernel
theorem bt_sum : bootBuiltins "sum" = some (.builtin "sum") := by decide +kernel
structure LawT (mg : Str → Option Value) : Prop where
  len : mg "len" = none
  max : mg "max" = none
  min : mg "min" = none
  range : mg "range" = none
  isin : mg "isinstance" = none
  abs : mg "abs" = none
  tuple : mg "tuple" = none
  list : mg "list" = none
  bool : mg "bool" = none
  int : mg "int" = none
theorem mod_lt (n : Int) {m : Int} (h : 0 < m) : 0 ≤ n % m ∧ n % m < m := ⟨Int.emod_nonneg _ (by omega), Int.emod_lt_of_pos _ h⟩
section
variable {P : Program} {w : World} {K : PySem.W.Frag} {mg : Str → Option Value} {base : Heap} {f : Addr} {fd' : FuncData}
theorem k_tuple_tuple : PySem.W.kitOne K (.type "tuple") (.type "tuple") = some true := by kernel_rfl
theorem k_list_list : PySem.W.kitOne K (.type "list") (.type "list") = some true := by kernel_rfl
theorem k_int_bool : PySem.W.kitOne K (.type "int") (.type "bool") = some false := by kernel_rfl
theorem passN {X : Cx} : Passes (CX1 P w) X E0 := fun _ _ _ _ _ _ _ h => by
  obtain ⟨_, _, _, _, _, _, _, _, _, _, _, _, _, _, _, ff⟩ := h
  exact ff.elim
end
/-! ### data that is equal to itself -/
mutual
theorem eqv_self : ∀ d : PyData, PyData.canLay0 d = true → PyData.eqv d d = true
  | .none, _ => by rw [PyData.eqv]
  | .bool b, _ => by rw [PyData.eqv]; simp
  | .int i, _ => by rw [PyData.eqv]; simp
  | .str x, _ => by rw [PyData.eqv]; simp
  | .list xs, h => by rw [PyData.canLay0] at h; rw [PyData.eqv]; exact eqvAll_self xs h
  | .tuple xs, h => by rw [PyData.canLay0] at h; rw [PyData.eqv]; exact eqvAll_self xs h
  | .dict _, h => by rw [PyData.canLay0] at h; cases h
theorem eqvAll_self : ∀ xs : List PyData, PyData.canLayAll0 xs = true → PyData.eqvAll xs xs = true
  | [], _ => by rw [PyData.eqvAll]
  | x :: r, h => by
    rw [PyData.canLayAll0, Bool.and_eq_true] at h
    rw [PyData.eqvAll, eqv_self x h.1, eqvAll_self r h.2]
    rfl
end
theorem le1 : 1 ≤ sizeLine := by decide
theorem le2 : 2 ≤ sizeLine := by decide
theorem le3 : 3 ≤ sizeLine := by decide
section
variable {P : Program} {w : World} {K : PySem.W.Frag} {mg : Str → Option Value} {base : Heap} {f : Addr} {fd' : FuncData}
theorem blkC {X : Cx} {scope : Scope} {own capn : List Str} {capI : List Nat} (sc : Scope) (hsc : X.env.scope = sc) (kind : scope.kind = .function) (h : (scope.names.all fun y => decide (y.2 ≠ .cell) && (decide (y.2 = .local → scope.names.lookup y.1 = some .local) && decide (y.2 = .free → sc.names.lookup y.1 = some .cell))) = true) (caps : capI.map (fun i => X.N[i]?) = capn.map some)
    (capc : ∀ y ∈ capn, X.env.scope.names.lookup y = some .cell ∧ (relabel scope X.env).names.lookup y = some .cell) : BlkScope X scope own capn capI := by
  have g : ∀ y ∈ scope.names, y.2 ≠ .cell ∧ (y.2 = .local → scope.names.lookup y.1 = some .local) ∧ (y.2 = .free → sc.names.lookup y.1 = some .cell) := fun y hy => by
    have := List.all_eq_true.mp h y hy
    rw [Bool.and_eq_true, Bool.and_eq_true] at this
    exact ⟨of_decide_eq_true this.1, of_decide_eq_true this.2.1, of_decide_eq_true this.2.2⟩
  exact ⟨kind, fun y hy => (g y hy).1, fun y hy => (g y hy).2.1, fun y hy e => by rw [hsc]; exact (g y hy).2.2 e, caps, capc⟩
end
end Car
namespace L2
open PySem PySem.Spec PyProof.Rows
end L2
namespace L2
open PySem PySem.Spec PyProof.Rows
section
variable {X : Cx} {pos : Pos}
/-- a, b, .. = a list of that length -/
noncomputable def gLst (K : PySem.W.Frag) (n : Nat) (t : TGs) : TG := fun v σ H Q => ∃ a xs, v = .ref a ∧ SqL K H a xs ∧ xs.length = n ∧ t xs σ H Q
theorem pg_lst {es : List Expr} {k : Nat} {t : TGs} {n : Nat} (hc : X.calm = true) (h : PGs X es t)
    (hn : (assignEach es X.env).length = n := by rfl) (hst : (assignEach es X.env).findIdx? (·.1) = none := by rfl) : PG X (.Tuple es k pos) (gLst X.K n t) := by
  intro pins s σ H v u Q I r hw
  obtain ⟨a, xs, e1, hq, hl, hw⟩ := hw
  subst e1
  cases r
  obtain ⟨its, rv, ⟨o, m, e, c, c2, d⟩, hz⟩ := I.list hq
  have ht : s.heap.IsList a its.toArray := ⟨o, e, c, m, d⟩
  rw [assign_Tuple]
  refine wpAny_bind (wpAny_standAt ?_)
  unfold unpack
  rw [show (assignEach es X.env).length = its.toArray.size by simp [hn, ← hl, rv.length], hst]
  refine wpAny_bind (wpAny_holding (PySem.W.kun_itemsOf (I.ok.hd hc) ht fun h' hx => ?_))
  have I1 : Inv X pins σ H { s with heap := h' } := I.kept (t' := s.toks) fun b o e => hx b o (Nat.ne_of_lt (Heap.lt_size e)) e
  exact h pins _ σ H xs _ Q I1 (by simpa using rv) hw
end
end L2

set_option maxHeartbeats 1000000
namespace L2
open PySem PySem.Spec PyProof.Rows
section
variable {X : Cx} {K : PySem.W.Frag}
theorem call_lenK (h : X.K = K) : CallR X (.builtin "len") (fun xs H Q => ∃ p ys, xs = [.ref p] ∧ (SqL K H p ys ∨ SqT K H p ys) ∧ Q (.int ys.length) H) := by subst h; exact call_len_seq
theorem call_listK (h : X.K = K) : CallR X (.type "list") (fun xs H Q => ∃ p ys, xs = [.ref p] ∧ (SqL K H p ys ∨ SqT K H p ys) ∧ ∀ l, H l = none → Q (.ref l) (upd H l (.lst ys))) := by subst h; exact call_list_of
end
end L2
namespace Car
open PySem L2
noncomputable abbrev sCells : Stmt := top 1
noncomputable abbrev sWithin : Stmt := top 2
noncomputable abbrev sUnder : Stmt := top 3
noncomputable abbrev sGreat : Stmt := top 5
noncomputable abbrev sCut : Stmt := top 8
noncomputable abbrev sHad : Stmt := top 9
noncomputable abbrev sTk : Stmt := top 13
noncomputable abbrev sAt : Stmt := top 14
noncomputable abbrev sCutter : Stmt := top 15
noncomputable abbrev sDrop : Stmt := top 16
noncomputable abbrev sRows : Stmt := top 17
noncomputable abbrev sCase : Stmt := top 18
noncomputable abbrev sPlaces : Stmt := top 4
noncomputable abbrev sLowest : Stmt := top 6
noncomputable abbrev sLowOver : Stmt := top 7
noncomputable abbrev sHigh : Stmt := top 10
noncomputable abbrev sWhy : Stmt := top 11
noncomputable abbrev sFst : Stmt := top 19
noncomputable abbrev sDue : Stmt := top 20
noncomputable abbrev sWhole : Stmt := top 21
noncomputable abbrev sLaw : Stmt := top 22
/-! ### beds and lists of cells on the heap -/
noncomputable abbrev pr (c : Int × Int) : List V := [.int c.1, .int c.2]
noncomputable def RowsAt (H : Hp) : List Addr → List (List Int) → Prop
  | [], [] => True
  | r :: rs, row :: rows => H r = some (.lst (row.map V.int)) ∧ RowsAt H rs rows
  | _, _ => False
theorem RowsAt.same {H H' : Hp} (s : Same H H') : ∀ {rs : List Addr} {rows : List (List Int)}, RowsAt H rs rows → RowsAt H' rs rows
  | [], [], _ => True.intro
  | _ :: _, _ :: _, h => ⟨s _ _ h.1, RowsAt.same s h.2⟩
  | [], _ :: _, h => h.elim
  | _ :: _, [], h => h.elim
theorem RowsAt.len {H : Hp} : ∀ {rs : List Addr} {rows : List (List Int)}, RowsAt H rs rows → rs.length = rows.length
  | [], [], _ => rfl
  | _ :: _, _ :: _, h => by rw [List.length_cons, List.length_cons, RowsAt.len h.2]
  | [], _ :: _, h => h.elim
  | _ :: _, [], h => h.elim
theorem RowsAt.at_ {H : Hp} : ∀ {rs : List Addr} {rows : List (List Int)} {i : Nat} {row : List Int}, RowsAt H rs rows → rows[i]? = some row → ∃ r, rs[i]? = some r ∧ H r = some (.lst (row.map V.int))
  | [], [], _, _, _, e => by simp at e
  | r :: _, _ :: _, 0, _, h, e => by cases e; exact ⟨r, rfl, h.1⟩
  | _ :: _, _ :: _, i + 1, _, h, e => by
    obtain ⟨r, a, b⟩ := RowsAt.at_ (i := i) h.2 e
    exact ⟨r, a, b⟩
  | [], _ :: _, _, _, h, _ => h.elim
  | _ :: _, [], _, _, h, _ => h.elim
theorem MvAt.at_ {H : Hp} : ∀ {ts : List Addr} {ms : List (List V)} {i : Nat} {t : Addr} {m : List V}, MvAt H ts ms → ts[i]? = some t → ms[i]? = some m → H t = some (.tup m)
  | [], [], _, _, _, _, e, _ => by simp at e
  | _ :: _, _ :: _, 0, _, _, ⟨h, _⟩, e, e' => by
    cases e
    cases e'
    exact h
  | _ :: _, _ :: _, i + 1, _, _, h, e, e' => MvAt.at_ (i := i) h.2 e e'
noncomputable def BdAt (H : Hp) (b : Addr) (rows : List (List Int)) : Prop := ∃ rs, H b = some (.lst (rs.map V.ref)) ∧ RowsAt H rs rows
noncomputable def FtAt (H : Hp) (f : Addr) (cs : List (Int × Int)) : Prop := ∃ ts, H f = some (.lst (ts.map V.ref)) ∧ MvAt H ts (cs.map pr)
theorem BdAt.same {H H' : Hp} {b : Addr} {rows : List (List Int)} (h : BdAt H b rows) (s : Same H H') : BdAt H' b rows := by
  obtain ⟨rs, a, c⟩ := h
  exact ⟨rs, s _ _ a, c.same s⟩
theorem FtAt.same {H H' : Hp} {b : Addr} {cs : List (Int × Int)} (h : FtAt H b cs) (s : Same H H') : FtAt H' b cs := by
  obtain ⟨rs, a, c⟩ := h
  exact ⟨rs, s _ _ a, c.same s⟩
/-- the cell is of the bed -/
noncomputable def ins (rows : List (List Int)) (c : Int × Int) : Bool := decide (0 ≤ c.2 ∧ c.2 < rows.length ∧ 0 ≤ c.1 ∧ c.1 < (rows.headD []).length)
noncomputable def hgt (rows : List (List Int)) (c : Int × Int) : Int := ((rows[c.2.toNat]?).bind fun r => r[c.1.toNat]?).getD 0
/-- all rows are as wide as the first -/
noncomputable def Rect (rows : List (List Int)) : Prop := rows ≠ [] ∧ ∀ r ∈ rows, r.length = (rows.headD []).length
theorem ins_at {rows : List (List Int)} {c : Int × Int} (h : ins rows c = true) (R : Rect rows) : ∃ (i j : Nat) (row : List Int) (v : Int), c = ((j : Int), (i : Int)) ∧ rows[i]? = some row ∧ row[j]? = some v ∧ hgt rows c = v := by
  obtain ⟨x, y⟩ := c
  obtain ⟨a1, a2, a3, a4⟩ : 0 ≤ y ∧ y < rows.length ∧ 0 ≤ x ∧ x < (rows.headD []).length := of_decide_eq_true h
  have hy : y.toNat < rows.length := by omega
  have hr := R.2 _ (List.getElem_mem hy)
  have hx : x.toNat < (rows[y.toNat]).length := by omega
  have e1 := List.getElem?_eq_getElem hy
  have e2 := List.getElem?_eq_getElem hx
  refine ⟨y.toNat, x.toNat, rows[y.toNat], (rows[y.toNat])[x.toNat], ?_, e1, e2, ?_⟩
  · rw [Int.toNat_of_nonneg a1, Int.toNat_of_nonneg a3]
  · unfold hgt
    rw [e1, Option.bind_some, e2]
    rfl
theorem ref_get {ts : List Addr} {i : Nat} {x : V} (h : (ts.map V.ref)[i]? = some x) : ∃ t, ts[i]? = some t ∧ x = .ref t := by
  rw [List.getElem?_map] at h
  cases e : ts[i]? with
  | none => rw [e] at h; cases h
  | some p => rw [e] at h; cases h; exact ⟨p, rfl, rfl⟩
theorem MvAt.app {H : Hp} : ∀ {ts us : List Addr} {ms ns : List (List V)}, MvAt H ts ms → MvAt H us ns → MvAt H (ts ++ us) (ms ++ ns)
  | [], _, [], _, _, h => h
  | _ :: _, _, _ :: _, _, h, h2 => ⟨h.1, MvAt.app h.2 h2⟩
  | [], _, _ :: _, _, h, _ => h.elim
  | _ :: _, _, [], _, h, _ => h.elim
theorem mv_new {H : Hp} {ts : List Addr} {ms : List (List V)} {t : Addr} {m : List V} (M : MvAt H ts ms) (h : H t = none) : MvAt (upd H t (.tup m)) (ts ++ [t]) (ms ++ [m]) := (M.same (same_upd h _)).snoc upd_same
theorem sbn {a : Addr} {H : Hp} {xs : List V} (h : H a = some (.lst xs)) : ∀ m, H a ≠ some (.tup m) := fun m e => by rw [h] at e; cases e
/-! ### comprehensions over a list, with names from around -/
/-- one new tuple of each thing -/
theorem lc_tupC {K : PySem.W.Frag} {a : Addr} {xs : List V} {te : TE} {F : V → List V} {H1 : Hp} {A : Hp → Prop} (caps : St) (hl : SqL K H1 a xs) (hx : xs.length ≤ 1000)
    (hte : ∀ x ∈ xs, ∀ (H2 : Hp) (R : VK), Same H1 H2 → (∀ t, H2 t = none → R (.ref t) (upd H2 t (.tup (F x)))) → te (some x :: caps) H2 R) {D : Addr} (hD : H1 D = none)
    (q : ∀ (ts : List Addr) (H' : Hp), Same H1 H' → H' D = some (.lst (ts.map V.ref)) → MvAt H' ts (xs.map F) → A H') :
    ∃ W : Nat → Nat → St → List V → Hp → Prop, (∃ m, W 0 m (none :: caps) [] (upd H1 D (.lst []))) ∧
      ∀ i m σ' acc H, W i m σ' acc H → ((Itl K a).stop i H ∧ A H) ∨ ((Itl K a).go i H ∧ ∀ x H', (Itl K a).yld i H x H' → gName 0 x σ' H' fun σ2 H2 => tNoIf σ2 H2 fun b H3 =>
        if b = true then te σ2 H3 fun y H4 => H4 D = some (.lst acc) ∧ acc.length < sizeLine ∧ ∃ m', m' < m ∧ W (i + 1) m' σ2 (acc ++ [y]) (upd H4 D (.lst (acc ++ [y]))) else ∃ m', m' < m ∧ W (i + 1) m' σ2 acc H3) := by
  refine ⟨Wd xs.length (fun i σ acc H2 => ∃ (z : Option V) (ts : List Addr), σ = z :: caps ∧ acc = ts.map V.ref ∧ ts.length = i ∧ MvAt H2 ts ((xs.take i).map F) ∧ Same H1 H2 ∧ H2 D = some (.lst acc)), wd_0 ⟨none, [], rfl, rfl, rfl, by rw [List.take_zero]; exact True.intro, same_upd hD _, upd_same⟩, ?_⟩
  rintro i mm σ acc H2 ⟨rfl, hi0, z, ts, rfl, rfl, tl, mv, s2, hB2⟩
  refine lc_ask (K := K) (xs := xs) (s2.seq hl) hi0 (fun x hx1 hi => ?_) (fun hend => ?_)
  · show te (some x :: caps) H2 _
    refine hte x (List.mem_of_getElem? hx1) H2 _ s2 fun t ht => ⟨same_upd ht _ _ _ hB2, ?_, wd_next hi ?_⟩
    · rw [List.length_map, tl]
      exact line3 (show i ≤ 1000 by omega) (by decide)
    · refine ⟨_, ts ++ [t], rfl, by rw [List.map_append]; rfl, by rw [List.length_append, tl]; rfl, ?_, same_in (s2.trans (same_upd ht _)) hD, upd_same⟩
      have e : (xs.take (i + 1)).map F = (xs.take i).map F ++ [F x] := by
        rw [List.take_add_one, hx1, List.map_append]
        rfl
      rw [e]
      exact (mv_new mv ht).upd (sbn (same_upd ht _ _ _ hB2))
  · rw [hend, List.take_of_length_le (Nat.le_refl _)] at mv
    exact q ts H2 s2 hB2 mv
/-- a value of each thing, nothing new on the heap -/
theorem lc_valC {K : PySem.W.Frag} {a : Addr} {xs : List V} {te : TE} {F : V → V} {H1 : Hp} {A : Hp → Prop} (caps : St) (hl : SqL K H1 a xs) (hx : xs.length ≤ 1000)
    (hte : ∀ x ∈ xs, ∀ (H2 : Hp) (R : VK), Same H1 H2 → R (F x) H2 → te (some x :: caps) H2 R) {D : Addr} (hD : H1 D = none)
    (q : ∀ (H' : Hp), Same H1 H' → H' D = some (.lst (xs.map F)) → A H') :
    ∃ W : Nat → Nat → St → List V → Hp → Prop, (∃ m, W 0 m (none :: caps) [] (upd H1 D (.lst []))) ∧
      ∀ i m σ' acc H, W i m σ' acc H → ((Itl K a).stop i H ∧ A H) ∨ ((Itl K a).go i H ∧ ∀ x H', (Itl K a).yld i H x H' → gName 0 x σ' H' fun σ2 H2 => tNoIf σ2 H2 fun b H3 =>
        if b = true then te σ2 H3 fun y H4 => H4 D = some (.lst acc) ∧ acc.length < sizeLine ∧ ∃ m', m' < m ∧ W (i + 1) m' σ2 (acc ++ [y]) (upd H4 D (.lst (acc ++ [y]))) else ∃ m', m' < m ∧ W (i + 1) m' σ2 acc H3) := by
  refine ⟨Wd xs.length (fun i σ acc H2 => ∃ (z : Option V), σ = z :: caps ∧ acc = (xs.take i).map F ∧ Same H1 H2 ∧ H2 D = some (.lst acc)), wd_0 ⟨none, rfl, by rw [List.take_zero]; rfl, same_upd hD _, upd_same⟩, ?_⟩
  rintro i mm σ acc H2 ⟨rfl, hi0, z, rfl, rfl, s2, hB2⟩
  refine lc_ask (K := K) (xs := xs) (s2.seq hl) hi0 (fun x hx1 hi => ?_) (fun hend => ?_)
  · show te (some x :: caps) H2 _
    refine hte x (List.mem_of_getElem? hx1) H2 _ s2 ⟨hB2, ?_, wd_next hi ?_⟩
    · rw [List.length_map, List.length_take]
      exact line3 (show min i xs.length ≤ 1000 by omega) (by decide)
    · refine ⟨_, rfl, ?_, same_in s2 hD, upd_same⟩
      rw [List.take_add_one, hx1, List.map_append]
      rfl
  · rw [hend, List.take_of_length_le (Nat.le_refl _)] at hB2
    exact q H2 s2 hB2
end Car
seal L2.PE L2.PT L2.PW L2.PA L2.PS L2.PSs L2.PG L2.PGs L2.PI L2.PSet L2.OpR L2.UnR L2.CallR L2.TruR L2.IxR L2.SlR L2.PO L2.PK L2.PIfs
namespace Car
open PySem L2
section
variable {P : Program} {w : World} {K : PySem.W.Frag} {mg : Str → Option Value} {base : Heap} {f : Addr} {fd' : FuncData}
/-! ### within -/
noncomputable def spWithin : Sp := fun vs H Q _ => ∃ (b c : Addr) (rows : List (List Int)) (cs : List (Int × Int)), vs = [.ref b, .ref c] ∧ BdAt H b rows ∧ rows ≠ [] ∧ FtAt H c cs ∧ cs.length ≤ 1000 ∧ ∀ D H', H D = none → Same H H' → FtAt H' D (cs.filter (ins rows)) → Q (.ref D) H'
theorem scWithin : FnScope ["bed", "cells"] ["bed", "cells"] (defScope sWithin) := ⟨rfl, rfl, rfl, by decide +kernel, rfl, by decide +kernel, by decide +kernel⟩
theorem nd2 {x y : Str} (h : x ≠ y) : [x, y].Nodup := by simp [h]
theorem ok_within (T : LawT mg) (F : Fun K "within" "within" sWithin f fd') : FnOk P w K mg base (CX1 P w) 1 f fd' ["bed", "cells"] spWithin := by
  have nd := scWithin.nd
  refine F.ok1 scWithin (fun vs H Q E h => ?_) (fun cdv A outer s H vs Q E hr h => ?_)
  · obtain ⟨b, c, rows, cs, rfl, _⟩ := h
    rfl
  obtain ⟨b, c, rows, cs, rfl, hb, hne, ⟨ts, hc, mvc⟩, hl, q⟩ := h
  have tl : ts.length = cs.length := by rw [mvc.len, List.length_map]
  refine ⟨_, (pss_one (ps_ret (pe_lc (own := ["cell"]) (capn := ["bed"]) (capI := [0]) rfl (blkC (defScope sWithin) rfl rfl (by decide +kernel) rfl (fun y hy => by rcases List.mem_cons.mp hy with rfl | hy; exact ⟨rfl, rfl⟩; cases hy)) (pi_list (pv 1)) (fun _ _ _ _ _ _ => pg_name (i := 0) (nd2 (x := "cell") (y := "bed") (by decide +kernel)) rfl (Or.inl rfl))
    (fun _ _ _ _ _ _ => (pifs_one (PW.pt (pw_and (pt_chain op_le op_lt pe_int (pe_ix (ix_tupK (K := K) rfl) (pv 0) pe_int (fun _ _ => rfl)) (pe_callB (call_lenK (K := K) rfl) rfl T.len PySem.boot_len (pa_cons (pv 1) pa_nil))) (pw_and1 (pt_chain op_le op_lt pe_int (pe_ix (ix_tupK (K := K) rfl) (pv 0) pe_int (fun _ _ => rfl)) (pe_callB (call_lenK (K := K) rfl) rfl T.len PySem.boot_len (pa_cons (pe_ix (ix_listK (K := K) rfl) (pv 1) pe_int (fun _ _ => rfl)) pa_nil)))))))) (fun _ _ _ _ _ _ => (pv 0))))), ?_⟩
  refine ⟨_, rfl, c, rfl, ⟨_, SqL.of hc⟩, fun D hD => ?_⟩
  refine ⟨Wd ts.length (fun i σ acc H2 => ∃ (z : Option V) (us : List Addr), σ = [z, some (.ref b)] ∧ acc = us.map V.ref ∧ us.length ≤ i ∧ MvAt H2 us (((cs.take i).filter (ins rows)).map pr) ∧ Same H H2 ∧ H2 D = some (.lst acc)), wd_0 ⟨none, [], rfl, rfl, Nat.le_refl _, by rw [List.take_zero]; exact True.intro, same_upd hD _, upd_same⟩, ?_⟩
  rintro i im σ acc H2 ⟨rfl, hi0, z, us, rfl, rfl, ul, mv, s2, hD2⟩
  refine lc_ask (K := K) (xs := ts.map V.ref) (SqL.of (s2 _ _ hc)) (by rw [List.length_map]; exact hi0) (fun x hx hi => ?_) (fun hend => ?_)
  · obtain ⟨t, ht, rfl⟩ := ref_get hx
    have hi' : i < ts.length := by rw [List.length_map] at hi; exact hi
    have hic : i < cs.length := by omega
    have ec := List.getElem?_eq_getElem hic
    have gt : H2 t = some (.tup (pr cs[i])) := s2 _ _ (mvc.at_ ht (by rw [List.getElem?_map, ec]; rfl))
    generalize cs[i] = c1 at ec gt
    obtain ⟨rs, hb2, ra⟩ := hb.same s2
    obtain ⟨r0, rr, er⟩ : ∃ r0 rr, rows = r0 :: rr := by
      cases rows with
      | nil => exact absurd rfl hne
      | cons r0 rr => exact ⟨r0, rr, rfl⟩
    obtain ⟨a0, ha0, hr0⟩ := ra.at_ (i := 0) (row := r0) (by rw [er]; rfl)
    have rl := ra.len
    have hw : (rows.headD []).length = r0.length := by rw [er]; rfl
    have skip : ∀ {m' : Nat}, ins rows c1 = false → ∃ m', m' < ts.length - i ∧ Wd ts.length (fun i σ acc H2 => ∃ (z : Option V) (us : List Addr), σ = [z, some (.ref b)] ∧ acc = us.map V.ref ∧ us.length ≤ i ∧ MvAt H2 us (((cs.take i).filter (ins rows)).map pr) ∧ Same H H2 ∧ H2 D = some (.lst acc)) (i + 1) m' [some (.ref t), some (.ref b)] (us.map V.ref) H2 := fun e => wd_next hi' ⟨_, us, rfl, rfl, by omega, by rw [List.take_add_one, ec, List.filter_append]; simp [e]; simpa using mv, s2, hD2⟩
    refine ⟨_, rfl, t, _, 1, .int c1.2, rfl, rfl, SqT.of gt, rfl, _, _, rfl, rfl, _, rfl, ?_⟩
    refine ite2 (fun h1 => ?_) (fun h1 => ?_)
    · refine ⟨_, rfl, b, _, rfl, .inl (SqL.of hb2), _, _, rfl, rfl, _, rfl, ?_⟩
      refine ite2 (fun h2 => ?_) (fun h2 => ?_)
      · refine ⟨_, rfl, t, _, 0, .int c1.1, rfl, rfl, SqT.of gt, rfl, _, _, rfl, rfl, _, rfl, ?_⟩
        refine ite2 (fun h3 => ?_) (fun h3 => ?_)
        · refine ⟨_, rfl, b, _, 0, .ref a0, rfl, rfl, SqL.of hb2, ?_, a0, _, rfl, .inl (SqL.of hr0), _, _, rfl, rfl, _, rfl, ?_⟩
          · cases rs with
            | nil => cases ha0
            | cons r1 rs => cases ha0; exact atI_nat (xs := (a0 :: rs).map V.ref) (j := 0) rfl
          · refine ite2 (fun h4 => ?_) (fun h4 => ?_)
            · refine ⟨_, rfl, hD2, ?_, wd_next hi' ⟨_, us ++ [t], rfl, by rw [List.map_append]; rfl, by rw [List.length_append]; show us.length + 1 ≤ _; omega, ?_, same_in s2 hD, upd_same⟩⟩
              · rw [List.length_map]
                exact line3 (show us.length ≤ 1000 by omega) (by decide)
              · have hin : ins rows c1 = true := by
                  have a1 := of_decide_eq_true h1
                  have a2 := of_decide_eq_true h2
                  have a3 := of_decide_eq_true h3
                  have a4 := of_decide_eq_true h4
                  rw [List.length_map] at a2 a4
                  exact decide_eq_true ⟨a1, by omega, a3, by omega⟩
                rw [List.take_add_one, ec, List.filter_append, List.map_append]
                have e1 : (Option.toList (some c1)).filter (ins rows) = [c1] := by simp [hin]
                rw [e1]
                exact (mv.snoc gt).upd (sbn hD2)
            · exact skip (m' := 0) (by
                refine decide_eq_false fun z => h4 ?_
                rw [List.length_map]
                exact decide_eq_true (by omega))
        · exact ⟨_, rfl, iteF (skip (m' := 0) (decide_eq_false fun z => h3 (decide_eq_true z.2.2.1)))⟩
      · exact iteF (skip (m' := 0) (by
          refine decide_eq_false fun z => h2 ?_
          rw [List.length_map]
          exact decide_eq_true (by omega)))
    · exact ⟨_, rfl, iteF (iteF (skip (m' := 0) (decide_eq_false fun z => h1 (decide_eq_true z.1))))⟩
  · rw [List.length_map] at hend
    rw [hend, tl, List.take_of_length_le (Nat.le_refl _)] at mv
    exact q D H2 hD s2 ⟨us, hD2, mv⟩
end
end Car

set_option maxHeartbeats 1000000
namespace Car
open PySem L2
section
variable {P : Program} {w : World} {K : PySem.W.Frag} {mg : Str → Option Value} {base : Heap} {f : Addr} {fd' : FuncData}
/-! ### cells_under -/
noncomputable def shf (x y : Int) (c : Int × Int) : Int × Int := (x + c.1, y + c.2)
/-- the cells of the bed under the foot at a place -/
noncomputable def und (rows : List (List Int)) (foot : List (Int × Int)) (x y : Int) : List (Int × Int) := (foot.map (shf x y)).filter (ins rows)
noncomputable def spUnder : Sp := fun vs H Q _ => ∃ (b ct ft : Addr) (tv : V) (x y : Int) (rows : List (List Int)) (foot : List (Int × Int)), vs = [.ref b, .ref ct, .int x, .int y] ∧ BdAt H b rows ∧ rows ≠ [] ∧ H ct = some (.tup [.ref ft, tv]) ∧ FtAt H ft foot ∧ foot.length ≤ 1000 ∧ ∀ D H', H D = none → Same H H' → FtAt H' D (und rows foot x y) → Q (.ref D) H'
theorem scUnder : FnScope ["bed", "cutter", "x", "y"] ["bed", "cutter", "x", "y"] (defScope sUnder) := ⟨rfl, rfl, rfl, by decide +kernel, rfl, by decide +kernel, by decide +kernel⟩
theorem nd3 : (["step", "x", "y"] : List Str).Nodup := by decide +kernel
theorem ok_under (FW : Fn P w K mg base "within" 1 ["bed", "cells"] spWithin) (F : Fun K "cells_under" "cells_under" sUnder f fd') : FnOk P w K mg base (CX1 P w) 2 f fd' ["bed", "cutter", "x", "y"] spUnder := by
  have nd := scUnder.nd
  refine F.ok1 scUnder (fun vs H Q E h => ?_) (fun cdv A outer s H vs Q E hr h => ?_)
  · obtain ⟨b, ct, ft, tv, x, y, rows, foot, rfl, _⟩ := h
    rfl
  obtain ⟨b, ct, ft, tv, x, y, rows, foot, rfl, hb, hne, hct, ⟨ts, hft, mvf⟩, hl, q⟩ := h
  have hr1 : Room 1 _ := hr.mono (by decide)
  have tl : ts.length = foot.length := by rw [mvf.len, List.length_map]
  refine ⟨_, (pss_one (ps_ret (pf_call FW hr1 rfl (pass1 (E := E)) (pa_cons (pv 0) (pa_cons (pe_lc (own := ["step"]) (capn := ["x", "y"]) (capI := [2, 3]) rfl (blkC (defScope sUnder) rfl rfl (by decide +kernel) rfl (fun y hy => by rcases List.mem_cons.mp hy with rfl | hy; exact ⟨rfl, rfl⟩; rcases List.mem_cons.mp hy with rfl | hy; exact ⟨rfl, rfl⟩; cases hy)) (pi_list (pe_ix ix_tup (pv 1) pe_int (fun _ _ => rfl))) (fun _ _ _ _ _ _ => pg_name (i := 0) nd3 rfl (Or.inl rfl)) (fun _ _ _ _ _ _ => pifs_nil) (fun _ _ _ _ _ _ => (pe_tup (pa_cons (pe_op op_add (pv 1) (pe_ix (ix_tupK (K := K) rfl) (pv 0) pe_int (fun _ _ => rfl))) (pa_cons (pe_op op_add (pv 2) (pe_ix (ix_tupK (K := K) rfl) (pv 0) pe_int (fun _ _ => rfl))) pa_nil))))) pa_nil))))), ?_⟩
  refine ⟨_, rfl, _, rfl, ct, _, 0, .ref ft, rfl, rfl, SqT.of hct, rfl, ft, rfl, ⟨_, SqL.of hft⟩, fun D hD => ?_⟩
  -- the steps' cells, by their tuples
  obtain ⟨g, hg⟩ : ∃ g : V → Int × Int, ∀ t c, MvAt H [t] [pr c] → g (.ref t) = c := by
    refine ⟨fun v => match v with | .ref t => (match H t with | some (.tup [.int a, .int b]) => (a, b) | _ => (0, 0)) | _ => (0, 0), fun t c h => ?_⟩
    have e : H t = some (.tup [.int c.1, .int c.2]) := h.1
    simp only [e]
  have gall : ∀ (us : List Addr) (cs : List (Int × Int)), MvAt H us (cs.map pr) → (us.map V.ref).map (fun v => pr (shf x y (g v))) = (cs.map (shf x y)).map pr := by
    intro us
    induction us with
    | nil =>
      intro cs h
      cases cs with
      | nil => rfl
      | cons c cs => exact h.elim
    | cons u us ih =>
      intro cs h
      cases cs with
      | nil => exact h.elim
      | cons c cs =>
        rw [List.map_cons, List.map_cons, List.map_cons, List.map_cons, ih cs h.2, hg u c ⟨h.1, True.intro⟩]
  refine lc_tupC (K := K) (xs := ts.map V.ref) (F := fun v => pr (shf x y (g v))) [some (.int x), some (.int y)] (SqL.of hft) (by rw [List.length_map]; omega) (fun v hv H2 R s2 r => ?_) hD (fun us H2 s2 hD2 mv2 => ?_)
  · obtain ⟨t, ht, rfl⟩ := List.mem_map.mp hv
    obtain ⟨i, hi⟩ := List.getElem?_of_mem ht
    have hif : i < foot.length := by have := (List.getElem?_eq_some_iff.mp hi).1; omega
    have e1 := mvf.at_ hi (by rw [List.getElem?_map, List.getElem?_eq_getElem hif]; rfl)
    have e2 := s2 _ _ e1
    have e3 := hg t _ ⟨e1, True.intro⟩
    generalize foot[i] = c1 at e1 e2 e3
    rw [e3] at r
    exact ⟨_, rfl, _, rfl, t, _, 0, .int c1.1, rfl, rfl, SqT.of e2, rfl, _, _, rfl, rfl, _, rfl, _, rfl, t, _, 1, .int c1.2, rfl, rfl, SqT.of e2, rfl, _, _, rfl, rfl, le2, r⟩
  · rw [gall ts foot mvf] at mv2
    exact ⟨b, D, rows, foot.map (shf x y), rfl, hb.same s2, hne, ⟨us, hD2, mv2⟩, by rw [List.length_map]; exact hl, fun D2 H3 n3 s3 h3 => q D2 H3 (s2.free n3) (s2.trans s3) h3⟩
/-! ### greatest -/
noncomputable def spGreat : Sp := fun vs H Q _ => ∃ (b c : Addr) (rows : List (List Int)) (cs : List (Int × Int)), vs = [.ref b, .ref c] ∧ BdAt H b rows ∧ Rect rows ∧ FtAt H c cs ∧ cs.length ≤ 1000 ∧ (∀ x ∈ cs, ins rows x = true) ∧ ∀ H', Same H H' → Q (.int (mxD 0 (cs.map (hgt rows)))) H'
theorem scGreat : FnScope ["bed", "cells"] ["bed", "cells"] (defScope sGreat) := ⟨rfl, rfl, rfl, by decide +kernel, rfl, by decide +kernel, by decide +kernel⟩
theorem ok_great (T : LawT mg) (F : Fun K "greatest" "greatest" sGreat f fd') : FnOk P w K mg base (CX1 P w) 1 f fd' ["bed", "cells"] spGreat := by
  have nd := scGreat.nd
  refine F.ok1 scGreat (fun vs H Q E h => ?_) (fun cdv A outer s H vs Q E hr h => ?_)
  · obtain ⟨b, c, rows, cs, rfl, _⟩ := h
    rfl
  obtain ⟨b, c, rows, cs, rfl, hb, rect, ⟨ts, hc, mvc⟩, hl, hin, q⟩ := h
  have tl : ts.length = cs.length := by rw [mvc.len, List.length_map]
  refine ⟨_, (pss_one (ps_ret (pe_maxD rfl rfl T.max (pa_cons (pe_lc (own := ["cell"]) (capn := ["bed"]) (capI := [0]) rfl (blkC (defScope sGreat) rfl rfl (by decide +kernel) rfl (fun y hy => by rcases List.mem_cons.mp hy with rfl | hy; exact ⟨rfl, rfl⟩; cases hy)) (pi_list (pv 1)) (fun _ _ _ _ _ _ => pg_name (i := 0) (nd2 (x := "cell") (y := "bed") (by decide +kernel)) rfl (Or.inl rfl)) (fun _ _ _ _ _ _ => pifs_nil)
    (fun _ _ _ _ _ _ => (pe_ix (ix_listK (K := K) rfl) (pe_ix (ix_listK (K := K) rfl) (pv 1) (pe_ix (ix_tupK (K := K) rfl) (pv 0) pe_int (fun _ _ => rfl)) (fun _ _ => rfl)) (pe_ix (ix_tupK (K := K) rfl) (pv 0) pe_int (fun _ _ => rfl)) (fun _ _ => rfl)))) pa_nil) (pk_cons pe_int pk_nil)))), ?_⟩
  refine ⟨_, rfl, c, rfl, ⟨_, SqL.of hc⟩, fun D hD => ?_⟩
  obtain ⟨g, hg⟩ : ∃ g : V → Int × Int, ∀ t c, MvAt H [t] [pr c] → g (.ref t) = c := by
    refine ⟨fun v => match v with | .ref t => (match H t with | some (.tup [.int a, .int b]) => (a, b) | _ => (0, 0)) | _ => (0, 0), fun t c h => ?_⟩
    have e : H t = some (.tup [.int c.1, .int c.2]) := h.1
    simp only [e]
  have gall : ∀ (us : List Addr) (cs : List (Int × Int)), MvAt H us (cs.map pr) → (us.map V.ref).map (fun v => V.int (hgt rows (g v))) = (cs.map (hgt rows)).map V.int := by
    intro us
    induction us with
    | nil =>
      intro cs h
      cases cs with
      | nil => rfl
      | cons c cs => exact h.elim
    | cons u us ih =>
      intro cs h
      cases cs with
      | nil => exact h.elim
      | cons c cs =>
        rw [List.map_cons, List.map_cons, List.map_cons, List.map_cons, ih cs h.2, hg u c ⟨h.1, True.intro⟩]
  refine lc_valC (K := K) (xs := ts.map V.ref) (F := fun v => V.int (hgt rows (g v))) [some (.ref b)] (SqL.of hc) (by rw [List.length_map]; omega) (fun v hv H2 R s2 r => ?_) hD (fun H2 s2 hD2 => ?_)
  · obtain ⟨t, ht, rfl⟩ := List.mem_map.mp hv
    obtain ⟨i, hi⟩ := List.getElem?_of_mem ht
    have hif : i < cs.length := by have := (List.getElem?_eq_some_iff.mp hi).1; omega
    have e1 := mvc.at_ hi (by rw [List.getElem?_map, List.getElem?_eq_getElem hif]; rfl)
    have e2 := s2 _ _ e1
    have e3 := hg t _ ⟨e1, True.intro⟩
    have e4 := hin _ (List.getElem_mem hif)
    generalize cs[i] = c1 at e1 e2 e3 e4
    rw [e3] at r
    obtain ⟨y, x, row, v, ec, er, ev, eh⟩ := ins_at e4 rect
    rw [eh] at r
    subst ec
    obtain ⟨rs, hb2, ra⟩ := hb.same s2
    obtain ⟨a, ha, hra⟩ := ra.at_ er
    exact ⟨_, rfl, _, rfl, t, _, 1, .int (y : Int), rfl, rfl, SqT.of e2, rfl, b, _, _, .ref a, rfl, rfl, SqL.of hb2, atI_nat (by rw [List.getElem?_map, ha]; rfl), _, rfl, t, _, 0, .int (x : Int), rfl, rfl, SqT.of e2, rfl, a, _, _, .int v, rfl, rfl, SqL.of hra, atI_nat (by rw [List.getElem?_map, ev]; rfl), r⟩
  · rw [gall ts cs mvc] at hD2
    exact ⟨D, _, 0, rfl, rfl, SqL.of hD2, q H2 s2⟩
noncomputable def lowAt (rows : List (List Int)) (foot : List (Int × Int)) (x y : Int) : Int := mxD 0 ((und rows foot x y).map (hgt rows))
end
end Car

set_option maxHeartbeats 1000000
namespace Car
open PySem L2
/-! ### a cell cut down -/
noncomputable def mn (a b : Int) : Int := if b < a then b else a
theorem le_mn {z a b : Int} : z ≤ mn a b ↔ z ≤ a ∧ z ≤ b := by
  unfold mn
  split <;> omega
noncomputable def cutC (rows : List (List Int)) (o : (Int × Int) × Int) : List (List Int) := rows.set o.1.2.toNat (((rows[o.1.2.toNat]?).getD []).set o.1.1.toNat (mn (hgt rows o.1) o.2))
theorem cutC_len (rows : List (List Int)) (o : (Int × Int) × Int) : (cutC rows o).length = rows.length := List.length_set
/-- as many rows, each as wide -/
noncomputable def Alike (a b : List (List Int)) : Prop := a.length = b.length ∧ ∀ (i : Nat) (r s : List Int), a[i]? = some r → b[i]? = some s → r.length = s.length
theorem Alike.refl (a : List (List Int)) : Alike a a := ⟨rfl, fun i r s h g => by rw [h] at g; cases g; rfl⟩
theorem Alike.trans {a b c : List (List Int)} (h : Alike a b) (g : Alike b c) : Alike a c := ⟨h.1.trans g.1, fun i r t x y => by
  have hi : i < b.length := by rw [← h.1]; exact (List.getElem?_eq_some_iff.mp x).1
  have e := List.getElem?_eq_getElem hi
  exact (h.2 i _ _ x e).trans (g.2 i _ _ e y)⟩
theorem cutC_alike (rows : List (List Int)) (o : (Int × Int) × Int) : Alike rows (cutC rows o) := by
  refine ⟨(cutC_len rows o).symm, fun i r s h g => ?_⟩
  unfold cutC at g
  by_cases e : o.1.2.toNat = i
  · subst e
    rw [List.getElem?_set_self (List.getElem?_eq_some_iff.mp h).1] at g
    cases g
    rw [h, Option.getD_some, List.length_set]
  · rw [List.getElem?_set_ne e, h] at g
    cases g
    rfl
theorem Alike.ins {a b : List (List Int)} (h : Alike a b) (c : Int × Int) : ins a c = ins b c := by
  unfold Car.ins
  have hw : (a.headD []).length = (b.headD []).length := by
    cases a with
    | nil =>
      cases b with
      | nil => rfl
      | cons s b => exact absurd h.1 (by simp)
    | cons r a =>
      cases b with
      | nil => exact absurd h.1 (by simp)
      | cons s b => exact h.2 0 r s rfl rfl
  rw [h.1, hw]
theorem Alike.rect {a b : List (List Int)} (h : Alike a b) (R : Rect a) : Rect b := by
  have hw : (a.headD []).length = (b.headD []).length := by
    cases a with
    | nil => exact absurd rfl R.1
    | cons r a =>
      cases b with
      | nil => exact absurd h.1 (by simp)
      | cons s b => exact h.2 0 r s rfl rfl
  refine ⟨fun z => ?_, fun s hs => ?_⟩
  · have e := h.1
    rw [z] at e
    cases a with
    | nil => exact R.1 rfl
    | cons r a => cases e
  · obtain ⟨i, hi⟩ := List.getElem?_of_mem hs
    have hia : i < a.length := by rw [h.1]; exact (List.getElem?_eq_some_iff.mp hi).1
    have e := List.getElem?_eq_getElem hia
    rw [← h.2 i _ _ e hi, ← hw]
    exact R.2 _ (List.getElem_mem hia)
theorem hgt_cut {rows : List (List Int)} (R : Rect rows) {c d : Int × Int} {h : Int} (hc : ins rows c = true) (hd : ins rows d = true) : hgt (cutC rows (c, h)) d = if d = c then mn (hgt rows c) h else hgt rows d := by
  obtain ⟨i, j, row, v, e1, e2, e3, e4⟩ := ins_at hc R
  obtain ⟨k, l, row2, v2, f1, f2, f3, f4⟩ := ins_at hd R
  subst e1
  subst f1
  have hi := (List.getElem?_eq_some_iff.mp e2).1
  have hj := (List.getElem?_eq_some_iff.mp e3).1
  unfold cutC
  simp only [Int.toNat_natCast]
  rw [e2, Option.getD_some]
  by_cases ik : i = k
  · subst ik
    rw [e2] at f2
    cases f2
    by_cases jl : j = l
    · subst jl
      rw [if_pos rfl]
      unfold hgt
      simp only [Int.toNat_natCast]
      rw [List.getElem?_set_self hi, Option.bind_some, List.getElem?_set_self hj]
      rfl
    · rw [if_neg (fun z => jl (by have := congrArg Prod.fst z; simp at this; omega))]
      unfold hgt
      simp only [Int.toNat_natCast]
      rw [List.getElem?_set_self hi, Option.bind_some, List.getElem?_set_ne jl, e2, Option.bind_some]
  · rw [if_neg (fun z => ik (by have := congrArg Prod.snd z; simp at this; omega))]
    unfold hgt
    simp only [Int.toNat_natCast]
    rw [List.getElem?_set_ne ik]
/-- many cells cut down, one by one -/
noncomputable def cutsF (rows : List (List Int)) (os : List ((Int × Int) × Int)) : List (List Int) := os.foldl cutC rows
theorem cuts_alike : ∀ (os : List ((Int × Int) × Int)) (rows : List (List Int)), Alike rows (cutsF rows os)
  | [], rows => Alike.refl rows
  | o :: os, rows => (cutC_alike rows o).trans (cuts_alike os (cutC rows o))
theorem le_cuts {d : Int × Int} : ∀ (os : List ((Int × Int) × Int)) (rows : List (List Int)), Rect rows → (∀ o ∈ os, ins rows o.1 = true) → ins rows d = true → ∀ z, z ≤ hgt (cutsF rows os) d ↔ z ≤ hgt rows d ∧ ∀ o ∈ os, o.1 = d → z ≤ o.2
  | [], rows, R, _, hd, z => ⟨fun h => ⟨h, fun _ m => (List.not_mem_nil m).elim⟩, fun h => h.1⟩
  | (c, h) :: os, rows, R, hi, hd, z => by
    have A := cutC_alike rows (c, h)
    have hc := hi (c, h) List.mem_cons_self
    have ih := le_cuts (d := d) os (cutC rows (c, h)) (A.rect R) (fun o m => by rw [← A.ins]; exact hi o (List.mem_cons_of_mem _ m)) (by rw [← A.ins]; exact hd) z
    show z ≤ hgt (cutsF (cutC rows (c, h)) os) d ↔ _
    rw [ih, hgt_cut R hc hd]
    by_cases e : d = c
    · subst e
      rw [if_pos rfl, le_mn]
      constructor
      · rintro ⟨⟨a, b⟩, k⟩
        refine ⟨a, fun o m => ?_⟩
        rcases List.mem_cons.mp m with rfl | m
        · exact fun _ => b
        · exact k o m
      · rintro ⟨a, k⟩
        exact ⟨⟨a, k (d, h) List.mem_cons_self rfl⟩, fun o m => k o (List.mem_cons_of_mem _ m)⟩
    · rw [if_neg e]
      constructor
      · rintro ⟨a, k⟩
        refine ⟨a, fun o m => ?_⟩
        rcases List.mem_cons.mp m with rfl | m
        · exact fun z => absurd z.symm e
        · exact k o m
      · rintro ⟨a, k⟩
        exact ⟨a, fun o m => k o (List.mem_cons_of_mem _ m)⟩
theorem eq_of_le {a b : Int} (h : ∀ z, z ≤ a ↔ z ≤ b) : a = b := Int.le_antisymm ((h a).mp (Int.le_refl _)) ((h b).mpr (Int.le_refl _))
/-! ### what can be had -/
noncomputable def cellsR (w : Nat) (y : Nat) : List (Int × Int) := (List.range w).map fun (x : Nat) => ((x : Int), (y : Int))
noncomputable def cellsF : Nat → List (List Int) → List (Int × Int)
  | _, [] => []
  | y, r :: rows => cellsR r.length y ++ cellsF (y + 1) rows
noncomputable abbrev Tool := List (Int × Int) × Int
noncomputable def opsP (bed wished : List (List Int)) (t : Tool) (p : Int × Int) : List ((Int × Int) × Int) := (und bed t.1 p.1 p.2).map fun c => (c, mxD 0 ((und bed t.1 p.1 p.2).map (hgt wished)))
noncomputable def opsT (bed wished : List (List Int)) (t : Tool) : List ((Int × Int) × Int) := (cellsF 0 bed).flatMap (opsP bed wished t)
noncomputable def opsS (bed wished : List (List Int)) (ts : List Tool) : List ((Int × Int) × Int) := ts.flatMap (opsT bed wished)
noncomputable def hadF (bed wished : List (List Int)) (ts : List Tool) : List (List Int) := cutsF bed (opsS bed wished ts)
theorem cuts_app (rows : List (List Int)) (a b : List ((Int × Int) × Int)) : cutsF rows (a ++ b) = cutsF (cutsF rows a) b := List.foldl_append
theorem mem_cellsF : ∀ (rows : List (List Int)) (y : Nat) (c : Int × Int), c ∈ cellsF y rows ↔ ∃ (i x : Nat) (r : List Int), rows[i]? = some r ∧ x < r.length ∧ c = ((x : Int), ((y + i : Nat) : Int))
  | [], y, c => ⟨fun h => (List.not_mem_nil h).elim, fun ⟨i, x, r, h, _⟩ => by cases h⟩
  | r :: rows, y, c => by
    rw [cellsF, List.mem_append, mem_cellsF rows (y + 1) c]
    constructor
    · rintro (h | ⟨i, x, r', h1, h2, h3⟩)
      · obtain ⟨x, hx, rfl⟩ := List.mem_map.mp h
        exact ⟨0, x, r, rfl, List.mem_range.mp hx, rfl⟩
      · exact ⟨i + 1, x, r', h1, h2, by rw [h3, show y + 1 + i = y + (i + 1) by omega]⟩
    · rintro ⟨i, x, r', h1, h2, h3⟩
      cases i with
      | zero =>
        cases h1
        exact .inl (List.mem_map.mpr ⟨x, List.mem_range.mpr h2, h3.symm⟩)
      | succ i => exact .inr ⟨i, x, r', h1, h2, by rw [h3, show y + 1 + i = y + (i + 1) by omega]⟩
theorem mem_cells {rows : List (List Int)} (R : Rect rows) (c : Int × Int) : c ∈ cellsF 0 rows ↔ ins rows c = true := by
  rw [mem_cellsF]
  constructor
  · rintro ⟨i, x, r, h1, h2, rfl⟩
    have hi := (List.getElem?_eq_some_iff.mp h1).1
    have hw := R.2 r (List.mem_of_getElem? h1)
    exact decide_eq_true ⟨show (0 : Int) ≤ ((0 + i : Nat) : Int) by omega, show ((0 + i : Nat) : Int) < (rows.length : Int) by omega, show (0 : Int) ≤ (x : Int) by omega, show (x : Int) < ((rows.headD []).length : Int) by omega⟩
  · intro h
    obtain ⟨i, j, row, v, e1, e2, e3, _⟩ := ins_at h R
    exact ⟨i, j, row, e2, (List.getElem?_eq_some_iff.mp e3).1, by rw [e1, Nat.zero_add]⟩
/-- the ops of a shelf: a cell under a cutter at a place of the bed -/
theorem mem_ops {bed wished : List (List Int)} (R : Rect bed) {ts : List Tool} {o : (Int × Int) × Int} : o ∈ opsS bed wished ts ↔ ∃ t ∈ ts, ∃ s ∈ t.1, ∃ p, ins bed p = true ∧ o.1 = shf p.1 p.2 s ∧ ins bed o.1 = true ∧ o.2 = mxD 0 ((und bed t.1 p.1 p.2).map (hgt wished)) := by
  unfold opsS opsT
  constructor
  · intro h
    obtain ⟨t, ht, h⟩ := List.mem_flatMap.mp h
    obtain ⟨p, hp, h⟩ := List.mem_flatMap.mp h
    obtain ⟨c, hc, rfl⟩ := List.mem_map.mp h
    obtain ⟨hc1, hc2⟩ := List.mem_filter.mp hc
    obtain ⟨s, hs, rfl⟩ := List.mem_map.mp hc1
    exact ⟨t, ht, s, hs, p, (mem_cells R p).mp hp, rfl, hc2, rfl⟩
  · rintro ⟨t, ht, s, hs, p, hp, e1, e2, e3⟩
    refine List.mem_flatMap.mpr ⟨t, ht, List.mem_flatMap.mpr ⟨p, (mem_cells R p).mpr hp, List.mem_map.mpr ⟨o.1, List.mem_filter.mpr ⟨List.mem_map.mpr ⟨s, hs, e1.symm⟩, e2⟩, ?_⟩⟩⟩
    rw [← e3]
theorem ops_in {bed wished : List (List Int)} (R : Rect bed) {ts : List Tool} : ∀ o ∈ opsS bed wished ts, ins bed o.1 = true := fun o h => by
  obtain ⟨t, _, s, _, p, _, _, e, _⟩ := (mem_ops R).mp h
  exact e
theorem le_had {bed wished : List (List Int)} (R : Rect bed) {ts : List Tool} {d : Int × Int} (hd : ins bed d = true) (z : Int) : z ≤ hgt (hadF bed wished ts) d ↔ z ≤ hgt bed d ∧ ∀ t ∈ ts, ∀ s ∈ t.1, ∀ p, ins bed p = true → d = shf p.1 p.2 s → z ≤ mxD 0 ((und bed t.1 p.1 p.2).map (hgt wished)) := by
  unfold hadF
  rw [le_cuts _ bed R (ops_in R) hd]
  constructor
  · rintro ⟨a, k⟩
    refine ⟨a, fun t ht s hs p hp e => ?_⟩
    exact k (d, mxD 0 ((und bed t.1 p.1 p.2).map (hgt wished))) ((mem_ops R).mpr ⟨t, ht, s, hs, p, hp, e, hd, rfl⟩) rfl
  · rintro ⟨a, k⟩
    refine ⟨a, fun o ho e => ?_⟩
    obtain ⟨t, ht, s, hs, p, hp, e1, e2, e3⟩ := (mem_ops R).mp ho
    rw [e3]
    exact k t ht s hs p hp (e ▸ e1)
end Car

set_option maxHeartbeats 1000000
namespace L2
open PySem PySem.Spec PyProof.Rows
theorem for_enum {K : PySem.W.Frag} {a : Addr} {xs : List V} {g : TG} {tb : TS} {D : Ends} {σ : St} {H : Hp} (Pv : Nat → St → Hp → Prop) (h0 : Pv 0 σ H) (hl : ∀ i σ H, i ≤ xs.length → Pv i σ H → SqL K H a xs)
    (hs : ∀ i x σ H, xs[i]? = some x → Pv i σ H → ∀ T, H T = none → g (.ref T) σ (upd H T (.tup [.int i, x])) fun σ2 H2 => tb { D with nx := Pv (i + 1), ct := Pv (i + 1), bk := D.nx } σ2 H2) (hd : ∀ σ H, Pv xs.length σ H → D.nx σ H) :
    ∃ W : Nat → Nat → St → Hp → Prop, (∃ m, W 0 m σ H) ∧ ∀ i m σ H, W i m σ H →
      ((Ite K a).stop i H ∧ D.nx σ H) ∨ ((Ite K a).go i H ∧ ∃ N : St → Hp → Prop, (∀ σ' H', N σ' H' → ∃ m', m' < m ∧ W (i + 1) m' σ' H') ∧ ∀ x H', (Ite K a).yld i H x H' → g x σ H' fun σ2 H2 => tb { D with nx := N, ct := N, bk := D.nx } σ2 H2) := by
  refine ⟨fun i m σ H => m = xs.length - i ∧ i ≤ xs.length ∧ Pv i σ H, ⟨xs.length, by simp, Nat.zero_le _, h0⟩, ?_⟩
  rintro i m σ H ⟨rfl, hi, p⟩
  have q := hl i σ H hi p
  by_cases hlt : i < xs.length
  · refine .inr ⟨⟨xs, xs[i], q, by simp [hlt]⟩, Pv (i + 1), fun σ' H' p' => ⟨xs.length - (i + 1), by omega, rfl, hlt, p'⟩, fun x H' y => ?_⟩
    obtain ⟨T, rfl, hT, y⟩ := y
    rw [y xs xs[i] q (by simp [hlt])]
    exact hs i xs[i] σ _ (by simp [hlt]) p T hT
  · have e : i = xs.length := by omega
    subst e
    exact .inl ⟨⟨xs, q, rfl⟩, hd σ H p⟩
end L2
namespace Car
open PySem L2
theorem ne_new {H : Hp} {a b : Addr} {o : HO} (h : H a = some o) (g : H b = none) : b ≠ a := fun z => by rw [z, h] at g; cases g
theorem cellsF_snoc (r : List Int) : ∀ (rows : List (List Int)) (y : Nat), cellsF y (rows ++ [r]) = cellsF y rows ++ cellsR r.length (y + rows.length)
  | [], y => by
    show cellsR r.length y ++ [] = [] ++ cellsR r.length (y + 0)
    rw [List.append_nil, List.nil_append, Nat.add_zero]
  | s :: rows, y => by
    show cellsR s.length y ++ cellsF (y + 1) (rows ++ [r]) = (cellsR s.length y ++ cellsF (y + 1) rows) ++ cellsR r.length (y + (rows.length + 1))
    rw [cellsF_snoc r rows, List.append_assoc, show y + 1 + rows.length = y + (rows.length + 1) by omega]
theorem cellsF_le : ∀ (rows : List (List Int)) (y : Nat), (∀ r ∈ rows, r.length ≤ 40) → (cellsF y rows).length ≤ 40 * rows.length
  | [], _, _ => Nat.le_refl _
  | r :: rows, y, h => by
    have h1 := h r List.mem_cons_self
    have h2 := cellsF_le rows (y + 1) fun x hx => h x (List.mem_cons_of_mem _ hx)
    rw [cellsF, List.length_append, cellsR, List.length_map, List.length_range, List.length_cons]
    omega
/-- the bed is no more than 40 either way -/
noncomputable def Small (rows : List (List Int)) : Prop := rows.length ≤ 40 ∧ ∀ r ∈ rows, r.length ≤ 40
section
variable {P : Program} {w : World} {K : PySem.W.Frag} {mg : Str → Option Value} {base : Heap} {f : Addr} {fd' : FuncData}
/-! ### cells_of -/
noncomputable def spCells : Sp := fun vs H Q _ => ∃ (b : Addr) (rows : List (List Int)), vs = [.ref b] ∧ BdAt H b rows ∧ Small rows ∧ ∀ D H', H D = none → Same H H' → FtAt H' D (cellsF 0 rows) → Q (.ref D) H'
theorem scCells : FnScope ["bed", "told", "y", "row"] ["bed"] (defScope sCells) := ⟨rfl, rfl, rfl, by decide +kernel, rfl, by decide +kernel, by decide +kernel⟩
theorem ok_cells (T : LawT mg) (hen : mg "enumerate" = none) (F : Fun K "cells_of" "cells_of" sCells f fd') : FnOk P w K mg base (CX1 P w) 1 f fd' ["bed"] spCells := by
  have nd := scCells.nd
  refine F.ok1 scCells (fun vs H Q E h => ?_) (fun cdv A outer s H vs Q E hr h => ?_)
  · obtain ⟨b, rows, rfl, _⟩ := h
    rfl
  obtain ⟨b, rows, rfl, ⟨rs, hb, ra⟩, ⟨sm1, sm2⟩, q⟩ := h
  have rsl := ra.len
  refine ⟨_, (pss_cons (ps_set (i := 1) nd rfl (Or.inl rfl) (pe_lst pa_nil))
    (pss_cons (ps_for own1 rfl (pi_enum rfl hen (pa_cons (pv 0) pa_nil)) (pg_tup rfl (pgs_cons (pg_name (i := 2) nd rfl (Or.inr rfl)) (pgs_cons (pg_name (i := 3) nd rfl (Or.inl rfl)) pgs_nil))) (pss_one (ps_expr (pe_bm PySem.F.plainAttrs_list PySem.F.slot_list_extend PySem.F.type_list_extend mt_extend (pv 1) (pa_cons (pe_lc (own := ["x"]) (capn := ["y"]) (capI := [2]) rfl (blkC (defScope sCells) rfl rfl (by decide +kernel) rfl (fun y hy => by rcases List.mem_cons.mp hy with rfl | hy; exact ⟨rfl, rfl⟩; cases hy)) (pi_range1 rfl T.range (pa_cons (pe_callB call_len_seq rfl T.len PySem.boot_len (pa_cons (pv 3) pa_nil)) pa_nil)) (fun _ _ _ _ _ _ => pg_name (i := 0) (nd2 (x := "x") (y := "y") (by decide +kernel)) rfl (Or.inl rfl)) (fun _ _ _ _ _ _ => pifs_nil) (fun _ _ _ _ _ _ => (pe_tup (pa_cons (pv 0) (pa_cons (pv 1) pa_nil))))) pa_nil)))))
    (pss_one (ps_ret (pv 1))))), ?_⟩
  refine ⟨Nat.zero_le _, fun tl htl => ?_⟩
  have u0 := same_upd htl (.lst [])
  refine ⟨_, rfl, b, _, rfl, SqL.of (u0 _ _ hb), ?_⟩
  refine for_enum (xs := rs.map V.ref) (fun i σ H2 => ∃ (x2 x3 : Option V) (us : List Addr), σ = [some (.ref b), some (.ref tl), x2, x3] ∧ H2 tl = some (.lst (us.map V.ref)) ∧ MvAt H2 us ((cellsF 0 (rows.take i)).map pr) ∧ Same H H2) ⟨none, none, [], rfl, upd_same, by rw [List.take_zero]; exact True.intro, u0⟩ ?_ ?_ ?_
  · rintro i σ H2 _ ⟨x2, x3, us, rfl, _, _, s2⟩
    exact SqL.of (s2 _ _ hb)
  · rintro i x σ H2 hx ⟨x2, x3, us, rfl, ht2, mu2, s2⟩ t ht
    obtain ⟨r, hr1, rfl⟩ := ref_get hx
    have hi : i < rows.length := by have := (List.getElem?_eq_some_iff.mp hr1).1; omega
    have er := List.getElem?_eq_getElem hi
    obtain ⟨r', e1, e2⟩ := ra.at_ er
    have e3 : r = r' := by rw [hr1] at e1; cases e1; rfl
    subst e3
    have hw := sm2 _ (List.getElem_mem hi)
    generalize rows[i] = row at er e2 hw
    have u1 := same_upd ht (.tup [.int (i : Int), .ref r])
    have ht3 := u1 _ _ ht2
    have mu3 := mu2.same u1
    have s3 := s2.trans u1
    have hrow := s3 _ _ e2
    refine ⟨t, _, rfl, SqT.of upd_same, rfl, _, _, rfl, _, _, rfl, rfl, ?_⟩
    generalize upd H2 t (.tup [.int (i : Int), .ref r]) = H3 at ht3 mu3 s3 hrow
    refine ⟨_, rfl, .inl ⟨rfl, _, SqL.of ht3⟩, _, rfl, r, _, rfl, .inl (SqL.of hrow), _, rfl, (by rw [List.length_map]; omega), (by rw [List.length_map]; omega), fun D2 hD2 => ?_⟩
    rw [List.length_map, Int.toNat_natCast]
    refine ⟨Wd row.length (fun j σ2 acc H5 => ∃ (z : Option V) (vs : List Addr), σ2 = [z, some (.int (i : Int))] ∧ acc = vs.map V.ref ∧ vs.length = j ∧ MvAt H5 vs (((List.range j).map fun (x : Nat) => ((x : Int), (i : Int))).map pr) ∧ Same H3 H5 ∧ H5 D2 = some (.lst acc)), wd_0 ⟨none, [], rfl, rfl, rfl, True.intro, same_upd hD2 _, upd_same⟩, ?_⟩
    rintro j jm σ2 acc H5 ⟨rfl, hj0, z2, vs, rfl, rfl, vl, mv5, s5, hD5⟩
    refine rg_ask hj0 (fun hj => ?_) (fun hend => ?_)
    · rw [Int.zero_add]
      refine ⟨_, rfl, _, rfl, le2, fun t ht => ?_⟩
      have u := same_upd ht (.tup [V.int (j : Int), .int (i : Int)])
      refine ⟨u _ _ hD5, (by rw [List.length_map, vl]; exact line3 (show j ≤ 1000 by omega) (by decide)), wd_next hj ⟨_, vs ++ [t], rfl, by rw [List.map_append]; rfl, by rw [List.length_append, vl]; rfl, ?_, same_in (s5.trans u) hD2, upd_same⟩⟩
      rw [List.range_succ, List.map_append, List.map_append]
      exact ((mv5.same u).snoc upd_same).upd (fun m e => by rw [u _ _ hD5] at e; cases e)
    · subst hend
      have ht5 := s5 _ _ ht3
      have ul : us.length ≤ 1600 := by
        rw [mu3.len, List.length_map]
        have := cellsF_le (rows.take i) 0 fun r hr => sm2 r (List.mem_of_mem_take hr)
        rw [List.length_take] at this
        omega
      refine ⟨tl, D2, _, _, rfl, rfl, ht5, hD5, (by rw [List.length_map, List.length_map, vl]; exact Nat.le_trans (show us.length + row.length ≤ 2000 by omega) (by decide)), ?_⟩
      refine ⟨_, _, us ++ vs, rfl, by rw [upd_same, List.map_append], ?_, same_in (s3.trans s5) htl⟩
      rw [List.take_add_one, er]
      show MvAt _ _ ((cellsF 0 (rows.take i ++ [row])).map pr)
      rw [cellsF_snoc, List.length_take, Nat.min_eq_left (by omega), Nat.zero_add, List.map_append]
      have app : ∀ {ts us : List Addr} {ms ns : List (List V)}, MvAt H5 ts ms → MvAt H5 us ns → MvAt H5 (ts ++ us) (ms ++ ns) := fun a b => MvAt.app a b
      exact (app (mu3.same s5) mv5).upd (fun m e => by rw [ht5] at e; cases e)
  · rintro σ H2 ⟨x2, x3, us, rfl, ht2, mu2, s2⟩
    rw [List.length_map, rsl, List.take_of_length_le (Nat.le_refl _)] at mu2
    exact ⟨_, rfl, q tl H2 htl s2 ⟨us, ht2, mu2⟩⟩
/-! ### cut_down -/
/-- all but these stay -/
noncomputable def Kp (rs : List Addr) (H H' : Hp) : Prop := ∀ x o, x ∉ rs → H x = some o → H' x = some o
theorem Kp.trans {rs : List Addr} {H H1 H2 : Hp} (h : Kp rs H H1) (g : Kp rs H1 H2) : Kp rs H H2 := fun x o n e => g x o n (h x o n e)
theorem Kp.of {rs : List Addr} {H H1 : Hp} (h : Same H H1) : Kp rs H H1 := fun x o _ e => h x o e
theorem RowsAt.mem {H : Hp} : ∀ {rs : List Addr} {rows : List (List Int)} {r : Addr}, RowsAt H rs rows → r ∈ rs → ∃ xs, H r = some (.lst xs)
  | _ :: _, _ :: _, r, h, m => by
    rcases List.mem_cons.mp m with rfl | m
    · exact ⟨_, h.1⟩
    · exact RowsAt.mem h.2 m
  | [], _, _, _, m => by cases m
  | _ :: _, [], _, h, _ => h.elim
theorem RowsAt.out {H : Hp} {rs : List Addr} {rows : List (List Int)} {t : Addr} {m : List V} (h : RowsAt H rs rows) (e : H t = some (.tup m)) : t ∉ rs := fun z => by
  obtain ⟨xs, h⟩ := h.mem z
  rw [h] at e
  cases e
theorem RowsAt.set {H : Hp} {a : Addr} {row : List Int} : ∀ {rs : List Addr} {rows : List (List Int)} {i : Nat}, rs.Nodup → RowsAt H rs rows → rs[i]? = some a → RowsAt (upd H a (.lst (row.map V.int))) rs (rows.set i row)
  | r :: rs, s :: rows, 0, nd, h, e => by
    cases e
    have n := (List.nodup_cons.mp nd).1
    refine ⟨upd_same, ?_⟩
    have keep : ∀ {ts : List Addr} {us : List (List Int)}, (∀ t ∈ ts, t ≠ a) → RowsAt H ts us → RowsAt (upd H a (.lst (row.map V.int))) ts us := by
      intro ts
      induction ts with
      | nil =>
        intro us _ h
        cases us with
        | nil => exact True.intro
        | cons u us => exact h.elim
      | cons t ts ih =>
        intro us k h
        cases us with
        | nil => exact h.elim
        | cons u us => exact ⟨by rw [upd_ne (k t List.mem_cons_self)]; exact h.1, ih (fun x hx => k x (List.mem_cons_of_mem _ hx)) h.2⟩
    exact keep (fun t ht z => n (by rw [← z]; exact ht)) h.2
  | r :: rs, s :: rows, i + 1, nd, h, e => by
    have n := (List.nodup_cons.mp nd).1
    have m : a ∈ rs := List.mem_of_getElem? (i := i) (by simpa using e)
    refine ⟨?_, RowsAt.set (i := i) (List.nodup_cons.mp nd).2 h.2 (by simpa using e)⟩
    rw [upd_ne (fun z => n (by rw [z]; exact m))]
    exact h.1
  | [], _, _, _, _, e => by cases e
  | _ :: _, [], _, _, h, _ => h.elim
noncomputable def spCut : Sp := fun vs H Q _ => ∃ (b c : Addr) (h : Int) (rs : List Addr) (rows : List (List Int)) (cs : List (Int × Int)), vs = [.ref b, .ref c, .int h] ∧ H b = some (.lst (rs.map V.ref)) ∧ RowsAt H rs rows ∧ rs.Nodup ∧ b ∉ rs ∧ c ∉ rs ∧ FtAt H c cs ∧ Rect rows ∧ (∀ x ∈ cs, ins rows x = true) ∧
  ∀ H', Kp rs H H' → RowsAt H' rs (cutsF rows (cs.map fun x => (x, h))) → Q .non H'
theorem scCut : FnScope ["bed", "cells", "height", "cell", "row"] ["bed", "cells", "height"] (defScope sCut) := ⟨rfl, rfl, rfl, by decide +kernel, rfl, by decide +kernel, by decide +kernel⟩
theorem ixN_nat {n j : Nat} (h : j < n) : ixN n (j : Int) = some j := by
  unfold ixN
  rw [if_pos (by omega), if_pos (by omega)]
  simp
theorem ok_cut (T : LawT mg) (F : Fun K "cut_down" "cut_down" sCut f fd') : FnOk P w K mg base (CX1 P w) 1 f fd' ["bed", "cells", "height"] spCut := by
  have nd := scCut.nd
  refine F.ok1 scCut (fun vs H Q E h => ?_) (fun cdv A outer s H vs Q E hr h => ?_)
  · obtain ⟨b, c, h, rs, rows, cs, rfl, _⟩ := h
    rfl
  obtain ⟨b, c, h, rs, rows, cs, rfl, hb, ra, rnd, nb, nc, ⟨ts, hc, mvc⟩, rect, hin, q⟩ := h
  have tl : ts.length = cs.length := by rw [mvc.len, List.length_map]
  refine ⟨_, (pss_one (ps_for own1 rfl (pi_list (pv 1)) (pg_name (i := 3) nd rfl (Or.inl rfl)) (pss_cons (ps_set (i := 4) nd rfl (Or.inl rfl) (pe_ix ix_list (pv 0) (pe_ix ix_tup (pv 3) pe_int (fun _ _ => rfl)) (fun _ _ => rfl)))
    (pss_one (ps_asg (pe_callB (call_min2 rfl) rfl T.min bt_min (pa_cons (pe_ix ix_list (pv 4) (pe_ix ix_tup (pv 3) pe_int (fun _ _ => rfl)) (fun _ _ => rfl)) (pa_cons (pv 2) pa_nil))) (pg_sub (pv 4) (pe_ix ix_tup (pv 3) pe_int (fun _ _ => rfl)) set_list)))))), ?_⟩
  refine ⟨_, rfl, c, rfl, ⟨_, SqL.of hc⟩, ?_⟩
  refine for_list (K := K) (xs := ts.map V.ref) (fun i σ H2 => ∃ x3 x4 : Option V, σ = [some (.ref b), some (.ref c), some (.int h), x3, x4] ∧ Kp rs H H2 ∧ RowsAt H2 rs (cutsF rows ((cs.take i).map fun x => (x, h)))) ⟨none, none, rfl, fun _ _ _ e => e, by rw [List.take_zero]; exact ra⟩ ?_ ?_ ?_
  · rintro i σ H2 _ ⟨x3, x4, rfl, k2, _⟩
    exact SqL.of (k2 _ _ nc hc)
  · rintro i v σ H2 hx ⟨x3, x4, rfl, k2, ra2⟩
    obtain ⟨t, ht, rfl⟩ := ref_get hx
    have hic : i < cs.length := by have := (List.getElem?_eq_some_iff.mp ht).1; omega
    have ec := List.getElem?_eq_getElem hic
    have gt0 := mvc.at_ ht (by rw [List.getElem?_map, ec]; rfl)
    have gt : H2 t = some (.tup (pr cs[i])) := k2 _ _ (ra.out gt0) gt0
    have hi1 := hin _ (List.getElem_mem hic)
    generalize cs[i] = c1 at ec gt hi1 gt0
    have al := cuts_alike ((cs.take i).map fun x => (x, h)) rows
    have hi2 : ins (cutsF rows ((cs.take i).map fun x => (x, h))) c1 = true := by rw [← al.ins]; exact hi1
    obtain ⟨iy, ix, row, v, e5, e6, e7, e8⟩ := ins_at hi2 (al.rect rect)
    have ex : c1.1 = (ix : Int) := congrArg Prod.fst e5
    have ey : c1.2 = (iy : Int) := congrArg Prod.snd e5
    obtain ⟨a, ha, hra⟩ := ra2.at_ e6
    have hb2 := k2 _ _ nb hb
    have ay : atI (rs.map V.ref) c1.2 = some (.ref a) := by rw [ey]; exact atI_nat (by rw [List.getElem?_map, ha]; rfl)
    have ax : atI (row.map V.int) c1.1 = some (.int v) := by rw [ex]; exact atI_nat (by rw [List.getElem?_map, e7]; rfl)
    have jx : ixN (row.map V.int).length c1.1 = some ix := by rw [ex]; exact ixN_nat (by rw [List.length_map]; exact (List.getElem?_eq_some_iff.mp e7).1)
    refine ⟨_, rfl, _, rfl, t, _, 1, .int c1.2, rfl, rfl, SqT.of gt, rfl, b, _, _, .ref a, rfl, rfl, SqL.of hb2, ay, ?_⟩
    refine ⟨_, rfl, _, rfl, t, _, 0, .int c1.1, rfl, rfl, SqT.of gt, rfl, a, _, _, .int v, rfl, rfl, SqL.of hra, ax, _, rfl, _, _, rfl, _, rfl, _, rfl, t, _, 0, .int c1.1, rfl, rfl, SqT.of gt, rfl, a, _, _, ix, rfl, rfl, hra, jx, ?_⟩
    have em : (row.map V.int).set ix (.int (if h < v then h else v)) = (row.set ix (mn v h)).map V.int := List.map_set.symm
    rw [em]
    refine ⟨_, _, rfl, fun x o nx e => ?_, ?_⟩
    · rw [upd_ne (fun z => nx (by rw [z]; exact List.mem_of_getElem? ha))]
      exact k2 x o nx e
    · have e9 : (cs.take (i + 1)).map (fun x => (x, h)) = (cs.take i).map (fun x => (x, h)) ++ [(c1, h)] := by
        rw [List.take_add_one, ec, List.map_append]
        rfl
      rw [e9, cuts_app]
      show RowsAt _ rs (cutC (cutsF rows ((cs.take i).map fun x => (x, h))) (c1, h))
      have e10 : cutC (cutsF rows ((cs.take i).map fun x => (x, h))) (c1, h) = (cutsF rows ((cs.take i).map fun x => (x, h))).set iy (row.set ix (mn v h)) := by
        unfold cutC
        simp only [e8]
        rw [ex, ey, Int.toNat_natCast, Int.toNat_natCast, e6]
        rfl
      rw [e10]
      exact ra2.set rnd ha
  · rintro σ H2 ⟨x3, x4, rfl, k2, ra2⟩
    rw [List.length_map, tl, List.take_of_length_le (Nat.le_refl _)] at ra2
    exact q H2 k2 ra2
end
end Car

set_option maxHeartbeats 1000000
namespace Car
open PySem L2
noncomputable def CtAt (H : Hp) (ct : Addr) (t : Tool) : Prop := ∃ ft, H ct = some (.tup [.ref ft, .int t.2]) ∧ FtAt H ft t.1
theorem CtAt.same {H H' : Hp} {ct : Addr} {t : Tool} (h : CtAt H ct t) (s : Same H H') : CtAt H' ct t := by
  obtain ⟨ft, a, b⟩ := h
  exact ⟨ft, s _ _ a, b.same s⟩
noncomputable def CtsAt (H : Hp) : List Addr → List Tool → Prop
  | [], [] => True
  | c :: cs, t :: ts => CtAt H c t ∧ CtsAt H cs ts
  | _, _ => False
theorem CtsAt.same {H H' : Hp} (s : Same H H') : ∀ {cs : List Addr} {ts : List Tool}, CtsAt H cs ts → CtsAt H' cs ts
  | [], [], _ => True.intro
  | _ :: _, _ :: _, h => ⟨h.1.same s, CtsAt.same s h.2⟩
  | [], _ :: _, h => h.elim
  | _ :: _, [], h => h.elim
theorem CtsAt.len {H : Hp} : ∀ {cs : List Addr} {ts : List Tool}, CtsAt H cs ts → cs.length = ts.length
  | [], [], _ => rfl
  | _ :: _, _ :: _, h => by rw [List.length_cons, List.length_cons, CtsAt.len h.2]
  | [], _ :: _, h => h.elim
  | _ :: _, [], h => h.elim
theorem CtsAt.at_ {H : Hp} : ∀ {cs : List Addr} {ts : List Tool} {i : Nat} {c : Addr}, CtsAt H cs ts → cs[i]? = some c → ∃ t, ts[i]? = some t ∧ CtAt H c t
  | [], [], _, _, _, e => by cases e
  | _ :: _, t :: _, 0, _, h, e => by cases e; exact ⟨t, rfl, h.1⟩
  | _ :: _, _ :: _, i + 1, _, h, e => by
    obtain ⟨t, a, b⟩ := CtsAt.at_ (i := i) h.2 e
    exact ⟨t, a, b⟩
  | [], _ :: _, _, _, h, _ => h.elim
  | _ :: _, [], _, _, h, _ => h.elim
noncomputable def ShAt (H : Hp) (sh : Addr) (ts : List Tool) : Prop := ∃ cs, H sh = some (.lst (cs.map V.ref)) ∧ CtsAt H cs ts
theorem ShAt.same {H H' : Hp} {sh : Addr} {ts : List Tool} (h : ShAt H sh ts) (s : Same H H') : ShAt H' sh ts := by
  obtain ⟨cs, a, b⟩ := h
  exact ⟨cs, s _ _ a, b.same s⟩
theorem RowsAt.keep {H H' : Hp} : ∀ {rs : List Addr} {rows : List (List Int)}, (∀ r ∈ rs, ∀ o, H r = some o → H' r = some o) → RowsAt H rs rows → RowsAt H' rs rows
  | [], [], _, _ => True.intro
  | r :: _, _ :: _, k, h => ⟨k r List.mem_cons_self _ h.1, RowsAt.keep (fun x hx => k x (List.mem_cons_of_mem _ hx)) h.2⟩
  | [], _ :: _, _, h => h.elim
  | _ :: _, [], _, h => h.elim
theorem RowsAt.snoc {H : Hp} {r : Addr} {row : List Int} (e : H r = some (.lst (row.map V.int))) : ∀ {rs : List Addr} {rows : List (List Int)}, RowsAt H rs rows → RowsAt H (rs ++ [r]) (rows ++ [row])
  | [], [], _ => ⟨e, True.intro⟩
  | _ :: _, _ :: _, h => ⟨h.1, RowsAt.snoc e h.2⟩
  | [], _ :: _, h => h.elim
  | _ :: _, [], h => h.elim
theorem Kp.same {rs : List Addr} {H H1 H2 : Hp} (s : Same H H1) (n : ∀ r ∈ rs, H r = none) (k : Kp rs H1 H2) : Same H H2 := fun x o e => k x o (fun z => by rw [n x z] at e; cases e) (s x o e)
section
variable {P : Program} {w : World} {K : PySem.W.Frag} {mg : Str → Option Value} {base : Heap} {f : Addr} {fd' : FuncData}
/-- [list(row) for row in bed]: new rows of the same numbers -/
theorem lc_rows {b : Addr} {rs : List Addr} {rows : List (List Int)} {te : TE} {H1 : Hp} {A : Hp → Prop} (hb : H1 b = some (.lst (rs.map V.ref))) (ra : RowsAt H1 rs rows) (sm : rows.length ≤ 1000)
    (hte : ∀ (r : Addr) (row : List Int) (H2 : Hp) (R : VK), H2 r = some (.lst (row.map V.int)) → (∀ p, H2 p = none → R (.ref p) (upd H2 p (.lst (row.map V.int)))) → te [some (.ref r)] H2 R) {D : Addr} (hD : H1 D = none)
    (q : ∀ (hs : List Addr) (H' : Hp), Same H1 H' → H' D = some (.lst (hs.map V.ref)) → RowsAt H' hs rows → hs.Nodup → (∀ h ∈ hs, H1 h = none) → D ∉ hs → A H') :
    ∃ W : Nat → Nat → St → List V → Hp → Prop, (∃ m, W 0 m [none] [] (upd H1 D (.lst []))) ∧
      ∀ i m σ' acc H, W i m σ' acc H → ((Itl K b).stop i H ∧ A H) ∨ ((Itl K b).go i H ∧ ∀ x H', (Itl K b).yld i H x H' → gName 0 x σ' H' fun σ2 H2 => tNoIf σ2 H2 fun b H3 =>
        if b = true then te σ2 H3 fun y H4 => H4 D = some (.lst acc) ∧ acc.length < sizeLine ∧ ∃ m', m' < m ∧ W (i + 1) m' σ2 (acc ++ [y]) (upd H4 D (.lst (acc ++ [y]))) else ∃ m', m' < m ∧ W (i + 1) m' σ2 acc H3) := by
  have rsl := ra.len
  refine ⟨Wd rows.length (fun i σ acc H2 => ∃ (z : Option V) (hs : List Addr), σ = [z] ∧ acc = hs.map V.ref ∧ RowsAt H2 hs (rows.take i) ∧ (∀ h ∈ hs, H1 h = none) ∧ D ∉ hs ∧ hs.Nodup ∧ Same H1 H2 ∧ H2 D = some (.lst acc)), wd_0 ⟨none, [], rfl, rfl, by rw [List.take_zero]; exact True.intro, fun _ h => (List.not_mem_nil h).elim, List.not_mem_nil, List.nodup_nil, same_upd hD _, upd_same⟩, ?_⟩
  rintro i im σ acc H2 ⟨rfl, hi0, z, hs, rfl, rfl, rh, nh, nD, ndh, s2, hD2⟩
  refine lc_ask (K := K) (xs := rs.map V.ref) (SqL.of (s2 _ _ hb)) (by rw [List.length_map, rsl]; exact hi0) (fun x hx hi => ?_) (fun hend => ?_)
  · obtain ⟨r, hr', rfl⟩ := ref_get hx
    have hi' : i < rows.length := by rw [List.length_map, rsl] at hi; exact hi
    obtain ⟨r', e1, e2⟩ := ra.at_ (List.getElem?_eq_getElem hi')
    have e3 : r = r' := by rw [hr'] at e1; cases e1; rfl
    subst e3
    have hsl := rh.len
    rw [List.length_take] at hsl
    show te [some (.ref r)] H2 _
    refine hte r rows[i] H2 _ (s2 _ _ e2) fun p hp => ?_
    have u := same_upd hp (.lst ((rows[i]).map V.int))
    have np := ne_new hD2 hp
    refine ⟨u _ _ hD2, (by rw [List.length_map]; exact line3 (show hs.length ≤ 1000 by omega) (by decide)), wd_next hi' ⟨_, hs ++ [p], rfl, by rw [List.map_append]; rfl, ?_, fun h hh => ?_, fun z => ?_, ?_, same_in (s2.trans u) hD, upd_same⟩⟩
    · rw [List.take_add_one, List.getElem?_eq_getElem hi']
      refine RowsAt.snoc (by rw [upd_ne np, upd_same]) (rh.keep fun r hr o e => ?_)
      rw [upd_ne (fun z => nD (by rw [← z]; exact hr))]
      exact u _ _ e
    · rcases List.mem_append.mp hh with hh | hh
      · exact nh h hh
      · rw [show h = p by simpa using hh]; exact s2.free hp
    · rcases List.mem_append.mp z with z | z
      · exact nD z
      · exact np (List.mem_singleton.mp z).symm
    · refine List.nodup_append.mpr ⟨ndh, by simp, fun a ha b hb e => ?_⟩
      rw [show b = p by simpa using hb] at e
      obtain ⟨xs, hx⟩ := rh.mem ha
      rw [e, hp] at hx
      cases hx
  · rw [List.length_map, rsl] at hend
    rw [hend, List.take_of_length_le (Nat.le_refl _)] at rh
    exact q hs H2 s2 hD2 rh ndh nh nD
/-! ### had -/
noncomputable def spHad : Sp := fun vs H Q _ => ∃ (b wh sh : Addr) (bed wished : List (List Int)) (ts : List Tool), vs = [.ref b, .ref wh, .ref sh] ∧ BdAt H b bed ∧ BdAt H wh wished ∧ ShAt H sh ts ∧ Rect bed ∧ Alike bed wished ∧ Small bed ∧ (∀ t ∈ ts, t.1.length ≤ 100) ∧
  ∀ D hs H', H D = none → Same H H' → H' D = some (.lst (hs.map V.ref)) → RowsAt H' hs (hadF bed wished ts) → hs.Nodup → (∀ h ∈ hs, H h = none) → D ∉ hs → Q (.ref D) H'
theorem scHad : FnScope ["bed", "wished", "shelf", "told", "cutter", "place", "under"] ["bed", "wished", "shelf"] (defScope sHad) := ⟨rfl, rfl, rfl, by decide +kernel, rfl, by decide +kernel, by decide +kernel⟩
theorem opsS_snoc (bed wished : List (List Int)) (ts : List Tool) (t : Tool) : opsS bed wished (ts ++ [t]) = opsS bed wished ts ++ opsT bed wished t := by
  unfold opsS
  rw [List.flatMap_append, List.flatMap_cons, List.flatMap_nil, List.append_nil]
theorem ok_had (T : LawT mg) (FC : Fn P w K mg base "cells_of" 1 ["bed"] spCells) (FU : Fn P w K mg base "cells_under" 2 ["bed", "cutter", "x", "y"] spUnder) (FG : Fn P w K mg base "greatest" 1 ["bed", "cells"] spGreat) (FD : Fn P w K mg base "cut_down" 1 ["bed", "cells", "height"] spCut)
    (F : Fun K "had" "had" sHad f fd') : FnOk P w K mg base (CX1 P w) 3 f fd' ["bed", "wished", "shelf"] spHad := by
  have nd := scHad.nd
  refine F.ok1 scHad (fun vs H Q E h => ?_) (fun cdv A outer s H vs Q E hr h => ?_)
  · obtain ⟨b, wh, sh, bed, wished, ts, rfl, _⟩ := h
    rfl
  obtain ⟨b, wh, sh, bed, wished, ts, rfl, hb, hwh, hsh, rect, al, small, feet, q⟩ := h
  have hr1 : Room 1 _ := hr.mono (by decide)
  have hr2 : Room 2 _ := hr.mono (by decide)
  refine ⟨_, (pss_cons (ps_setC (i := 3) (own := ["row"]) (capn := []) (capI := []) nd rfl (Or.inl rfl) rfl rfl (blk0 rfl (by decide +kernel)) (pi_list (pv 0)) (fun _ _ _ _ _ _ => pg_name (i := 0) (nd1 "row") rfl (Or.inl rfl)) (fun _ _ _ _ _ _ => pifs_nil) (fun _ _ _ _ _ _ => (pe_callTy (call_listK (K := K) rfl) rfl T.list bt_list (pa_cons (pv 0) pa_nil))))
    (pss_cons (ps_for own1 rfl (pi_list (pv 2)) (pg_name (i := 4) nd rfl (Or.inl rfl)) (pss_one (ps_for own1 rfl (pi_list (pf_call FC hr1 rfl (pass1 (E := E)) (pa_cons (pv 0) pa_nil))) (pg_name (i := 5) nd rfl (Or.inl rfl)) (pss_cons (ps_set (i := 6) nd rfl (Or.inl rfl) (pf_call FU hr2 rfl (pass1 (E := E)) (pa_cons (pv 0) (pa_cons (pv 4) (pa_cons (pe_ix ix_tup (pv 5) pe_int (fun _ _ => rfl)) (pa_cons (pe_ix ix_tup (pv 5) pe_int (fun _ _ => rfl)) pa_nil))))))
    (pss_one (ps_expr (pf_call FD hr1 rfl (pass1 (E := E)) (pa_cons (pv 3) (pa_cons (pv 6) (pa_cons (pf_call FG hr1 rfl (pass1 (E := E)) (pa_cons (pv 1) (pa_cons (pv 6) pa_nil))) pa_nil))))))))))
    (pss_one (ps_ret (pv 3))))), ?_⟩
  obtain ⟨rs, hb1, ra⟩ := id hb
  refine ⟨_, rfl, b, rfl, ⟨_, SqL.of hb1⟩, fun D hD => ?_⟩
  refine lc_rows (K := K) hb1 ra (by have := small.1; omega) (fun r row H2 R hr' k => ⟨_, rfl, r, _, rfl, .inl (SqL.of hr'), k⟩) hD (fun hs H1 s1 hD1 rh ndh nh nD => ?_)
  obtain ⟨cts, hs1, hs2⟩ := id hsh
  have ctl := hs2.len
  -- what is true all along
  have go : ∀ {H2 : Hp}, Kp hs H1 H2 → Same H H2 := fun k => k.same s1 nh
  refine ⟨_, rfl, sh, rfl, ⟨_, SqL.of (s1 _ _ hs1)⟩, ?_⟩
  refine for_list (K := K) (xs := cts.map V.ref) (fun i σ H2 => ∃ x4 x5 x6 : Option V, σ = [some (.ref b), some (.ref wh), some (.ref sh), some (.ref D), x4, x5, x6] ∧ Kp hs H1 H2 ∧ RowsAt H2 hs (cutsF bed (opsS bed wished (ts.take i)))) ⟨none, none, none, rfl, fun _ _ _ e => e, by rw [List.take_zero]; exact rh⟩ ?_ ?_ ?_
  · rintro i σ H2 _ ⟨x4, x5, x6, rfl, k2, _⟩
    exact SqL.of ((go k2) _ _ hs1)
  · rintro i v σ H2 hx ⟨x4, x5, x6, rfl, k2, ra2⟩
    obtain ⟨ct, hct, rfl⟩ := ref_get hx
    obtain ⟨t, et, hct1⟩ := hs2.at_ hct
    refine ⟨_, rfl, b, bed, rfl, hb.same (go k2), small, fun pl H3 npl s3 ⟨pts, hpl, mpl⟩ => ?_⟩
    have plo : pl ∉ hs := fun z => by
      obtain ⟨xs, hz⟩ := ra2.mem z
      rw [hz] at npl
      cases npl
    have ptl : pts.length = (cellsF 0 bed).length := by rw [mpl.len, List.length_map]
    have ra3 := ra2.same s3
    have k3 : Kp hs H1 H3 := k2.trans (Kp.of s3)
    refine ⟨pl, rfl, ⟨_, SqL.of hpl⟩, ?_⟩
    refine for_list (K := K) (xs := pts.map V.ref) (fun j σ H4 => ∃ x5 x6 : Option V, σ = [some (.ref b), some (.ref wh), some (.ref sh), some (.ref D), some (.ref ct), x5, x6] ∧ Kp hs H3 H4 ∧ RowsAt H4 hs (cutsF (cutsF bed (opsS bed wished (ts.take i))) (((cellsF 0 bed).take j).flatMap (opsP bed wished t)))) ⟨x5, x6, rfl, fun _ _ _ e => e, by rw [List.take_zero]; exact ra3⟩ ?_ ?_ ?_
    · rintro j σ H4 _ ⟨x5, x6, rfl, k4, _⟩
      exact SqL.of (k4 _ _ plo hpl)
    · rintro j v σ H4 hx ⟨x5, x6, rfl, k4, ra4⟩
      obtain ⟨pt, hpt, rfl⟩ := ref_get hx
      have hj : j < (cellsF 0 bed).length := by have := (List.getElem?_eq_some_iff.mp hpt).1; omega
      have ep := List.getElem?_eq_getElem hj
      have gt0 := mpl.at_ hpt (by rw [List.getElem?_map, ep]; rfl)
      have gt : H4 pt = some (.tup (pr (cellsF 0 bed)[j])) := k4 _ _ (ra3.out gt0) gt0
      generalize (cellsF 0 bed)[j] = p at ep gt gt0
      have sH := go (k3.trans k4)
      obtain ⟨ft, hc1, hc2⟩ := hct1.same sH
      have ft100 := feet t (List.mem_of_getElem? et)
      refine ⟨_, rfl, _, rfl, _, rfl, pt, _, 0, .int p.1, rfl, rfl, SqT.of gt, rfl, _, rfl, pt, _, 1, .int p.2, rfl, rfl, SqT.of gt, rfl, b, ct, ft, .int t.2, p.1, p.2, bed, t.1, rfl, hb.same sH, rect.1, hc1, hc2, by omega, fun u H5 nu s5 hu => ?_⟩
      have ulen : (und bed t.1 p.1 p.2).length ≤ 1000 := Nat.le_trans (List.length_filter_le _ _) (by rw [List.length_map]; omega)
      have uin : ∀ x ∈ und bed t.1 p.1 p.2, ins bed x = true := fun x hx => (List.mem_filter.mp hx).2
      refine ⟨_, rfl, _, rfl, _, rfl, _, rfl, wh, u, wished, und bed t.1 p.1 p.2, rfl, hwh.same (sH.trans s5), al.rect rect, hu, ulen, (fun x hx => by rw [← al.ins]; exact uin x hx), fun H6 s6 => ?_⟩
      have s46 := s5.trans s6
      have uo : u ∉ hs := fun z => by
        obtain ⟨xs, hz⟩ := ra4.mem z
        rw [hz] at nu
        cases nu
      have al2 : Alike bed (cutsF (cutsF bed (opsS bed wished (ts.take i))) (((cellsF 0 bed).take j).flatMap (opsP bed wished t))) := (cuts_alike _ _).trans (cuts_alike _ _)
      have hD6 : H6 D = some (.lst (hs.map V.ref)) := s46 _ _ (k4 _ _ nD (k3 _ _ nD hD1))
      refine ⟨D, u, _, hs, _, und bed t.1 p.1 p.2, rfl, hD6, ra4.same s46, ndh, nD, uo, hu.same s6, al2.rect rect, (fun x hx => by rw [← al2.ins]; exact uin x hx), fun H7 k7 ra7 => ?_⟩
      refine ⟨_, _, rfl, (k4.trans (Kp.of s46)).trans k7, ?_⟩
      rw [List.take_add_one, ep, List.flatMap_append, cuts_app]
      show RowsAt H7 hs (cutsF _ ([p].flatMap (opsP bed wished t)))
      rw [List.flatMap_cons, List.flatMap_nil, List.append_nil]
      exact ra7
    · rintro σ H4 ⟨x5, x6, rfl, k4, ra4⟩
      rw [List.length_map, ptl, List.take_of_length_le (Nat.le_refl _)] at ra4
      refine ⟨_, _, _, rfl, k3.trans k4, ?_⟩
      rw [List.take_add_one, et]
      show RowsAt H4 hs (cutsF bed (opsS bed wished (ts.take i ++ [t])))
      rw [opsS_snoc, cuts_app]
      exact ra4
  · rintro σ H2 ⟨x4, x5, x6, rfl, k2, ra2⟩
    rw [List.length_map, ctl, List.take_of_length_le (Nat.le_refl _)] at ra2
    exact ⟨_, rfl, q D hs H2 hD (go k2) (k2 _ _ nD hD1) ra2 ndh nh nD⟩
end
end Car

set_option maxHeartbeats 1000000
namespace Car
open PySem L2
/-- all but what stands at a stays -/
noncomputable def Sb (a : Addr) (H H' : Hp) : Prop := ∀ x o, x ≠ a → H x = some o → H' x = some o
theorem Sb.trans {a : Addr} {H H1 H2 : Hp} (h : Sb a H H1) (k : Sb a H1 H2) : Sb a H H2 := fun x o n e => k x o n (h x o n e)
theorem Sb.of {a : Addr} {H H' : Hp} (s : Same H H') : Sb a H H' := fun x o _ e => s x o e
theorem sb_upd {a : Addr} {H : Hp} {o : HO} : Sb a H (upd H a o) := fun x u n e => by rw [upd_ne n]; exact e
theorem mv_keep {a : Addr} {H H' : Hp} (s : Sb a H H') (nt : ∀ m, H a ≠ some (.tup m)) : ∀ {ts : List Addr} {ms : List (List V)}, MvAt H ts ms → MvAt H' ts ms
  | [], [], _ => True.intro
  | t :: _, m :: _, h => ⟨s t _ (fun z => nt m (by rw [← z]; exact h.1)) h.1, mv_keep s nt h.2⟩
  | [], _ :: _, h => h.elim
  | _ :: _, [], h => h.elim
section
variable {P : Program} {w : World} {K : PySem.W.Frag} {mg : Str → Option Value} {base : Heap} {f : Addr} {fd' : FuncData}
/-! ### _law_take -/
noncomputable def spTk : Sp := fun vs H Q _ => ∃ (a : Addr) (c b m : Int), vs = [.ref a, .int m] ∧ H a = some (.lst [.int c, .int b]) ∧ 0 < m ∧ m < 2 ^ 63 ∧ ∀ n c' : Int, 0 ≤ n → n < m → Q (.int n) (upd H a (.lst [.int c', .int b]))
theorem scTk : FnScope ["state", "many", "found"] ["state", "many"] (defScope sTk) := ⟨rfl, rfl, rfl, by decide +kernel, rfl, by decide +kernel, by decide +kernel⟩
theorem ok_tk (F : Fun K "_law_take" "_law_take" sTk f fd') : FnOk P w K mg base (CX1 P w) 1 f fd' ["state", "many"] spTk := by
  have nd := scTk.nd
  refine F.ok1 scTk (fun vs H Q E h => ?_) (fun cdv A outer s H vs Q E hr h => ?_)
  · obtain ⟨a, c, b, m, rfl, _⟩ := h
    rfl
  obtain ⟨a, c, b, m, rfl, ha, m0, m1, q⟩ := h
  refine ⟨_, (pss_cons (ps_if (pt_cmpR op_eq (pe_ix ix_list (pv 0) pe_int (fun _ _ => rfl)) pe_int (nomark _)) (pss_cons (ps_asg (pe_op op_mod (pe_op op_mul (pe_op op_add (pe_ix ix_list (pv 0) pe_int (fun _ _ => rfl)) pe_int) pe_int) pe_int) (pg_sub (pv 0) pe_int set_list))
    (pss_cons (ps_asg (pe_op op_mod (pe_op op_mul (pe_ix ix_list (pv 0) pe_int (fun _ _ => rfl)) (pe_ix ix_list (pv 0) pe_int (fun _ _ => rfl))) pe_int) (pg_sub (pv 0) pe_int set_list))
    (pss_one (ps_ret (pe_op op_mod (pe_op op_fdiv (pe_op op_mod (pe_op op_mul (pe_ix ix_list (pv 0) pe_int (fun _ _ => rfl)) pe_int) pe_int) pe_int) (pv 1)))))) pss_nil)
    (pss_cons (ps_set (i := 2) nd rfl (Or.inl rfl) (pe_op op_mod (pe_ix ix_list (pv 0) pe_int (fun _ _ => rfl)) (pv 1)))
    (pss_cons (ps_asg (pe_op op_fdiv64 (pe_ix ix_list (pv 0) pe_int (fun _ _ => rfl)) (pv 1)) (pg_sub (pv 0) pe_int set_list))
    (pss_one (ps_ret (pv 2)))))), ?_⟩
  refine ⟨_, rfl, a, _, 1, .int b, rfl, rfl, SqL.of ha, rfl, rfl, _, rfl, ?_⟩
  refine ite2 (fun _ => ?_) (fun _ => ?_)
  · refine ⟨_, rfl, a, _, 0, .int c, rfl, rfl, SqL.of ha, rfl, _, _, rfl, rfl, _, _, rfl, rfl, .inr ⟨by decide, by decide⟩, _, _, rfl, rfl, (by show (0 : Int) < 2147483647; decide), ?_⟩
    refine ⟨_, rfl, a, _, 0, 0, rfl, rfl, ha, rfl, ?_⟩
    have b1 := mod_lt ((c + 1) * 48271) (show (0 : Int) < 2147483647 by decide)
    refine ⟨_, rfl, a, _, 0, .int ((c + 1) * 48271 % 2147483647), rfl, rfl, SqL.of upd_same, rfl, _, rfl, a, _, 0, .int ((c + 1) * 48271 % 2147483647), rfl, rfl, SqL.of upd_same, rfl, _, _, rfl, rfl, .inl ⟨by omega, by omega⟩, _, _, rfl, rfl, (by show (0 : Int) < 2147483629; decide), ?_⟩
    refine ⟨_, rfl, a, _, 0, 0, rfl, rfl, upd_same, rfl, ?_⟩
    rw [upd_upd]
    refine ⟨_, rfl, a, _, 0, .int ((c + 1) * 48271 % 2147483647 * ((c + 1) * 48271 % 2147483647) % 2147483629), rfl, rfl, SqL.of upd_same, rfl, _, _, rfl, rfl, .inr ⟨by decide, by decide⟩, _, _, rfl, rfl, (by show (0 : Int) < 2147483587; decide), _, _, rfl, rfl, ⟨by decide, by decide⟩, _, rfl, _, _, rfl, rfl, m0, ?_⟩
    exact q _ _ (mod_lt _ m0).1 (mod_lt _ m0).2
  · refine ⟨_, rfl, a, _, 0, .int c, rfl, rfl, SqL.of ha, rfl, _, rfl, _, _, rfl, rfl, m0, ?_⟩
    refine ⟨_, rfl, a, _, 0, .int c, rfl, rfl, SqL.of ha, rfl, _, rfl, _, _, rfl, rfl, ⟨m0, by omega⟩, ?_⟩
    refine ⟨_, rfl, a, _, 0, 0, rfl, rfl, ha, rfl, ?_⟩
    exact ⟨_, rfl, q _ (c / m) (mod_lt _ m0).1 (mod_lt _ m0).2⟩
/-! ### _law_cutter -/
noncomputable def prD (c : Int × Int) : PyData := .tuple [.int c.1, .int c.2]
theorem prD_can (c : Int × Int) : PyData.canLay0 (prD c) = true ∧ PyData.depth (prD c) = 1 := ⟨rfl, rfl⟩
theorem prD_sh (c : Int × Int) : SeqAt.shaped (prD c) = true := by
  unfold SeqAt.shaped
  rw [(prD_can c).1, Bool.true_and]
  exact decide_eq_true (by rw [(prD_can c).2]; decide)
theorem prs_rp {H : Hp} : ∀ {ts : List Addr} {cs : List (Int × Int)}, MvAt H ts (cs.map pr) → Rps K H (ts.map V.ref) (cs.map prD)
  | [], [], _ => .nil
  | _ :: _, _ :: _, h => .cons (.tup (SqT.of h.1) (.cons (.int _) (.cons (.int _) .nil))) (prs_rp h.2)
  | [], _ :: _, h => h.elim
  | _ :: _, [], h => h.elim
theorem MvAt.tk {H : Hp} : ∀ {ts : List Addr} {ms : List (List V)} (m : Nat), MvAt H ts ms → MvAt H (ts.take m) (ms.take m)
  | _, _, 0, _ => by rw [List.take_zero, List.take_zero]; exact True.intro
  | [], [], _ + 1, h => h
  | _ :: _, _ :: _, m + 1, h => ⟨h.1, MvAt.tk m h.2⟩
theorem MvAt.dp {H : Hp} : ∀ {ts : List Addr} {ms : List (List V)} (m : Nat), MvAt H ts ms → MvAt H (ts.drop m) (ms.drop m)
  | _, _, 0, h => h
  | [], [], _ + 1, h => h
  | _ :: _, _ :: _, m + 1, h => MvAt.dp m h.2
theorem prD_eqv (a b : Int × Int) : PyData.eqv (prD a) (prD b) = decide (a = b) := by
  rcases a with ⟨a1, a2⟩
  rcases b with ⟨b1, b2⟩
  unfold prD
  rw [PyData.eqv, PyData.eqvAll, PyData.eqvAll, PyData.eqvAll, PyData.eqv, PyData.eqv]
  by_cases h1 : a1 = b1 <;> by_cases h2 : a2 = b2 <;> simp [h1, h2]
theorem prD_any (c : Int × Int) : ∀ cs : List (Int × Int), ((cs.map prD).any fun z => PyData.eqv z (prD c)) = decide (c ∈ cs)
  | [] => rfl
  | d :: r => by
    rw [List.map_cons, List.any_cons, prD_any c r, prD_eqv]
    by_cases h1 : d = c
    · subst h1
      simp
    · have h1' : ¬ c = d := fun z => h1 z.symm
      simp [h1, h1']
theorem prDs_can : ∀ cs : List (Int × Int), PyData.canLayAll0 (cs.map prD) = true ∧ PyData.depthAll (cs.map prD) ≤ 1
  | [] => ⟨rfl, by decide⟩
  | c :: r => by
    obtain ⟨a, b⟩ := prDs_can r
    rw [List.map_cons, PyData.canLayAll0, PyData.depthAll, (prD_can c).1, (prD_can c).2, a]
    exact ⟨rfl, by omega⟩
theorem prDs_sh (cs : List (Int × Int)) : SeqAt.shaped (.list (cs.map prD)) = true := by
  obtain ⟨a, b⟩ := prDs_can cs
  unfold SeqAt.shaped
  rw [PyData.canLay0, PyData.depth, a, Bool.true_and]
  exact decide_eq_true (by omega)
theorem cut_take {α : Type} (g : α → V) (xs : List α) (k : Nat) : cutV (xs.map g) none (some (k : Int)) = (xs.take k).map g := by
  unfold cutV
  rw [HT.sIx_none, HT.sIx_nat, List.drop_zero, ← List.map_take, List.length_map, Nat.sub_zero]
  congr 1
  rcases Nat.le_total k xs.length with h | h
  · rw [Nat.min_eq_left h]
  · rw [Nat.min_eq_right h, List.take_of_length_le (Nat.le_refl _), List.take_of_length_le h]
theorem cut_drop {α : Type} (g : α → V) (xs : List α) (k : Nat) : cutV (xs.map g) (some (k : Int)) none = (xs.drop k).map g := by
  unfold cutV
  rw [HT.sIx_none, HT.sIx_nat, List.length_map, ← List.map_drop, ← List.map_take]
  congr 1
  rcases Nat.le_total k xs.length with h | h
  · rw [Nat.min_eq_left h]
    exact List.take_of_length_le (by rw [List.length_drop]; exact Nat.le_refl _)
  · rw [Nat.min_eq_right h, Nat.sub_self, List.take_zero, List.drop_of_length_le h]
theorem foot_nodup {cs : List (Int × Int)} (h : cs.Nodup) (h0 : ((0, 0) : Int × Int) ∉ cs) (k : Nat) : (cs.take k ++ [(0, 0)] ++ cs.drop k).Nodup := by
  have p : (cs.take k ++ [((0, 0) : Int × Int)] ++ cs.drop k).Perm ((0, 0) :: cs) := by
    have := List.perm_middle (a := ((0, 0) : Int × Int)) (l₁ := cs.take k) (l₂ := cs.drop k)
    rw [List.take_append_drop] at this
    rw [List.append_assoc]
    exact this
  exact p.nodup_iff.mpr (List.nodup_cons.mpr ⟨h0, h⟩)
noncomputable def Nr (s : Int × Int) : Prop := -3 ≤ s.1 ∧ s.1 ≤ 3 ∧ -3 ≤ s.2 ∧ s.2 ≤ 3
noncomputable def spCutter : Sp := fun vs H Q _ => ∃ (st : Addr) (c b mo : Int), vs = [.ref st, .int mo] ∧ 0 < mo ∧ mo ≤ 25 ∧ H st = some (.lst [.int c, .int b]) ∧ ∀ (ct ft : Addr) (foot : List (Int × Int)) (bite c' : Int) (H' : Hp), Sb st H H' → H ft = none → H' st = some (.lst [.int c', .int b]) → ft ≠ st → H' ct = some (.tup [.ref ft, .int bite]) → FtAt H' ft foot → (0, 0) ∈ foot → foot.length ≤ 26 → foot.Nodup → (∀ s ∈ foot, Nr s) → Q (.ref ct) H'
theorem scCutter : FnScope ["state", "most", "foot", "k", "one", "at"] ["state", "most"] (defScope sCutter) := ⟨rfl, rfl, rfl, by decide +kernel, rfl, by decide +kernel, by decide +kernel⟩
theorem ok_cutter (T : LawT mg) (FT : Fn P w K mg base "_law_take" 1 ["state", "many"] spTk) (F : Fun K "_law_cutter" "_law_cutter" sCutter f fd') : FnOk P w K mg base (CX1 P w) 2 f fd' ["state", "most"] spCutter := by
  have nd := scCutter.nd
  refine F.ok1 scCutter (fun vs H Q E h => ?_) (fun cdv A outer s H vs Q E hr h => ?_)
  · obtain ⟨st, c, b, mo, rfl, _⟩ := h
    rfl
  obtain ⟨st, c, b, mo, rfl, mo0, mo25, hst, q⟩ := h
  have hr1 : Room 1 _ := hr.mono (by decide)
  refine ⟨_, (pss_cons (ps_set (i := 2) nd rfl (Or.inl rfl) (pe_lst pa_nil))
    (pss_cons (ps_for own1 rfl (pi_range1 rfl T.range (pa_cons (pf_call FT hr1 rfl (pass1 (E := E)) (pa_cons (pv 0) (pa_cons (pv 1) pa_nil))) pa_nil)) (pg_name (i := 3) nd rfl (Or.inl rfl)) (pss_cons (ps_set (i := 4) nd rfl (Or.inl rfl) (pe_tup (pa_cons (pe_op op_sub (pf_call FT hr1 rfl (pass1 (E := E)) (pa_cons (pv 0) (pa_cons pe_int pa_nil))) pe_int) (pa_cons (pe_op op_sub (pf_call FT hr1 rfl (pass1 (E := E)) (pa_cons (pv 0) (pa_cons pe_int pa_nil))) pe_int) pa_nil))))
    (pss_one (ps_if (PW.pt (pw_and (pt_cmpR (op_notInD hr.units65) (pv 4) (pv 2) (by with_unfolding_all rfl)) (pw_and1 (pt_cmpR (op_neD hr.units) (pv 4) (pe_tup (pa_cons pe_int (pa_cons pe_int pa_nil))) (nomark _))))) (pss_one (ps_expr (pe_bm PySem.F.plainAttrs_list PySem.F.slot_list_append PySem.F.type_list_append mt_append (pv 2) (pa_cons (pv 4) pa_nil)))) pss_nil))))
    (pss_cons (ps_set (i := 5) nd rfl (Or.inl rfl) (pf_call FT hr1 rfl (pass1 (E := E)) (pa_cons (pv 0) (pa_cons (pe_op op_add (pe_callB call_len_seq rfl T.len PySem.boot_len (pa_cons (pv 2) pa_nil)) pe_int) pa_nil))))
    (pss_one (ps_ret (pe_tup (pa_cons (pe_op op_cat (pe_op op_cat (pe_slice sl_list (pv 2) po_none (po_some (pv 5))) (pe_lst (pa_cons (pe_tup (pa_cons pe_int (pa_cons pe_int pa_nil))) pa_nil))) (pe_slice sl_list (pv 2) (po_some (pv 5)) po_none)) (pa_cons (pe_op op_add pe_int (pf_call FT hr1 rfl (pass1 (E := E)) (pa_cons (pv 0) (pa_cons pe_int pa_nil)))) pa_nil)))))))), ?_⟩
  refine ⟨Nat.zero_le _, fun ft hft => ?_⟩
  have nft := ne_new hst hft
  have u0 := same_upd hft (.lst [])
  have hst0 := u0 _ _ hst
  have eft : upd H ft (.lst []) ft = some (.lst []) := upd_same
  have w0 : Sb st H (upd H ft (.lst [])) := Sb.of u0
  generalize upd H ft (.lst []) = H0 at hst0 eft w0
  refine ⟨_, rfl, _, rfl, st, c, b, mo, rfl, hst0, mo0, (by omega), fun z1 c3 a1 b1 => ?_⟩
  have hst2 : upd H0 st (.lst [V.int c3, .int b]) st = some (.lst [V.int c3, .int b]) := upd_same
  have eft2 : upd H0 st (.lst [V.int c3, .int b]) ft = some (.lst []) := by rw [upd_ne nft]; exact eft
  have w2 : Sb st H (upd H0 st (.lst [V.int c3, .int b])) := w0.trans sb_upd
  generalize upd H0 st (.lst [V.int c3, .int b]) = H2 at hst2 eft2 w2
  obtain ⟨n, rfl, hn25⟩ : ∃ n : Nat, z1 = (n : Int) ∧ n ≤ 25 := ⟨z1.toNat, by omega, by omega⟩
  clear hst0 eft w0
  refine ⟨(n : Int), rfl, (by omega), (by omega), ?_⟩
  rw [Int.toNat_natCast]
  refine for_range (n := n) (fun i σ H3 => ∃ (x2 x3 : Option V) (ts : List Addr) (cs : List (Int × Int)) (c4 : Int), σ = [some (.ref st), some (.int mo), some (.ref ft), x2, x3, none] ∧ H3 st = some (.lst [.int c4, .int b]) ∧ H3 ft = some (.lst (ts.map V.ref)) ∧ MvAt H3 ts (cs.map pr) ∧ cs.length ≤ i ∧ (cs.Nodup ∧ (0, 0) ∉ cs ∧ ∀ s ∈ cs, Nr s) ∧ Sb st H H3)
    ⟨none, none, [], [], c3, rfl, hst2, eft2, True.intro, Nat.le_refl _, ⟨List.nodup_nil, (fun z => by cases z), fun s hs => by cases hs⟩, w2⟩ ?_ ?_
  · rintro i σ H3 hi ⟨x2, x3, ts, cs, c4, rfl, hs3, ef3, mv3, l3, nd3, w3⟩
    have tl : ts.length = cs.length := by rw [mv3.len, List.length_map]
    refine ⟨_, rfl, st, c4, b, 7, rfl, hs3, (by decide), (by decide), fun y1 c5 ya yb => ⟨_, _, rfl, rfl, _, rfl, st, c5, b, 7, rfl, upd_same, (by decide), (by decide), fun y2 c6 yc yd => ⟨_, _, rfl, rfl, le2, fun t ht => ?_⟩⟩⟩
    rw [upd_upd] at ht ⊢
    have hs4 : upd H3 st (.lst [V.int c6, .int b]) st = some (.lst [V.int c6, .int b]) := upd_same
    have ef4 : upd H3 st (.lst [V.int c6, .int b]) ft = some (.lst (ts.map V.ref)) := by rw [upd_ne nft]; exact ef3
    have mv4 : MvAt (upd H3 st (.lst [V.int c6, .int b])) ts (cs.map pr) := mv3.upd (sbn hs3)
    have w4 : Sb st H (upd H3 st (.lst [V.int c6, .int b])) := w3.trans sb_upd
    generalize upd H3 st (.lst [V.int c6, .int b]) = H4 at hs4 ef4 mv4 w4 ht
    have u5 := same_upd ht (.tup [V.int (y1 - 3), .int (y2 - 3)])
    have et : upd H4 t (.tup [V.int (y1 - 3), .int (y2 - 3)]) t = some (.tup (pr (y1 - 3, y2 - 3))) := upd_same
    have hs5 := u5 _ _ hs4
    have ef5 := u5 _ _ ef4
    have mv5 := mv4.same u5
    have w5 : Sb st H (upd H4 t (.tup [V.int (y1 - 3), .int (y2 - 3)])) := w4.trans (Sb.of u5)
    generalize upd H4 t (.tup [V.int (y1 - 3), .int (y2 - 3)]) = H5 at et hs5 ef5 mv5 w5
    clear u5 hs4 ef4 mv4 w4 ht
    have rpt : ∀ {H6 : Hp}, Same H5 H6 → Rp K H6 (.ref t) (prD (y1 - 3, y2 - 3)) := fun s6 => .tup (SqT.of (s6 _ _ et)) (.cons (.int _) (.cons (.int _) .nil))
    have stay : ∀ {H6 : Hp}, Same H5 H6 → ∃ (x2 x3 : Option V) (ts : List Addr) (cs : List (Int × Int)) (c4 : Int), [some (.ref st), some (.int mo), some (.ref ft), some (.int (0 + (i : Int))), some (.ref t), none] = [some (.ref st), some (.int mo), some (.ref ft), x2, x3, none] ∧ H6 st = some (.lst [.int c4, .int b]) ∧ H6 ft = some (.lst (ts.map V.ref)) ∧ MvAt H6 ts (cs.map pr) ∧ cs.length ≤ i + 1 ∧ (cs.Nodup ∧ (0, 0) ∉ cs ∧ ∀ s ∈ cs, Nr s) ∧ Sb st H H6 :=
      fun s6 => ⟨_, _, ts, cs, c6, rfl, s6 _ _ hs5, s6 _ _ ef5, mv5.same s6, by omega, nd3, w5.trans (Sb.of s6)⟩
    refine ⟨_, rfl, _, rfl, _, _, rpt (Same.refl _), .lst (SqL.of ef5) (prs_rp mv5), prDs_sh _, prD_sh _, _, rfl, ?_⟩
    rw [show (if true = true then !((cs.map prD).any fun z => PyData.eqv z (prD (y1 - 3, y2 - 3))) else (cs.map prD).any fun z => PyData.eqv z (prD (y1 - 3, y2 - 3))) = !decide ((y1 - 3, y2 - 3) ∈ cs) by rw [prD_any]; rfl]
    refine ite2 (fun cn => ?_) (fun _ => iteF (stay (Same.refl _)))
    have hnew : (y1 - 3, y2 - 3) ∉ cs := fun z => by rw [decide_eq_true z] at cn; cases cn
    · refine ⟨_, rfl, le2, fun t0 h0 => ?_⟩
      have u6 := same_upd h0 (.tup [V.int 0, .int 0])
      refine ⟨prD (y1 - 3, y2 - 3), prD (0, 0), rpt u6, .tup (SqT.of upd_same) (.cons (.int _) (.cons (.int _) .nil)), prD_sh _, prD_sh _, _, rfl, ?_⟩
      rw [prD_eqv]
      refine ite2 (fun cz => ?_) (fun _ => stay u6)
      have hnz : ¬ ((0, 0) : Int × Int) = (y1 - 3, y2 - 3) := fun z => by
        rw [decide_eq_true z.symm] at cz
        cases cz
      have ef6 := u6 _ _ ef5
      refine ⟨_, rfl, .inl ⟨rfl, _, SqL.of ef6⟩, _, rfl, ft, _, .ref t, rfl, rfl, ef6, (by rw [List.length_map]; exact Nat.lt_of_le_of_lt (show ts.length ≤ 100 by omega) (by decide)), ?_⟩
      refine ⟨_, _, ts ++ [t], cs ++ [(y1 - 3, y2 - 3)], c6, rfl, by rw [upd_ne (Ne.symm nft)]; exact u6 _ _ hs5, by rw [upd_same, List.map_append]; rfl, ?_, by rw [List.length_append]; show cs.length + 1 ≤ _; omega, ⟨?_, ?_, ?_⟩, ?_⟩
      · rw [List.map_append]
        exact ((mv5.same u6).snoc (u6 _ _ et)).upd (sbn ef6)
      · exact (List.perm_append_singleton _ _).nodup_iff.mpr (List.nodup_cons.mpr ⟨hnew, nd3.1⟩)
      · intro z
        rcases List.mem_append.mp z with z | z
        · exact nd3.2.1 z
        · exact hnz (List.mem_singleton.mp z)
      · intro s hs
        rcases List.mem_append.mp hs with hs | hs
        · exact nd3.2.2 s hs
        · rw [List.mem_singleton.mp hs]
          exact ⟨by show -3 ≤ y1 - 3; omega, by show y1 - 3 ≤ 3; omega, by show -3 ≤ y2 - 3; omega, by show y2 - 3 ≤ 3; omega⟩
      · refine fun x o nx e => ?_
        rw [upd_ne (ne_of_none e hft)]
        exact u6 _ _ (w5 x o nx e)
  · rintro σ H3 ⟨x2, x3, ts, cs, c4, rfl, hs3, ef3, mv3, l3, nd3, w3⟩
    have tl : ts.length = cs.length := by rw [mv3.len, List.length_map]
    refine ⟨_, rfl, _, rfl, ft, _, rfl, .inl (SqL.of ef3), _, _, rfl, rfl, st, c4, b, _, rfl, hs3, (by rw [List.length_map]; omega), (by rw [List.length_map]; omega), fun z c5 zz0 zz1 => ?_⟩
    obtain ⟨kz, rfl⟩ : ∃ kz : Nat, z = (kz : Int) := ⟨z.toNat, by omega⟩
    have hs4 : upd H3 st (.lst [V.int c5, .int b]) st = some (.lst [V.int c5, .int b]) := upd_same
    have ef4 : upd H3 st (.lst [V.int c5, .int b]) ft = some (.lst (ts.map V.ref)) := by rw [upd_ne nft]; exact ef3
    have mv4 : MvAt (upd H3 st (.lst [V.int c5, .int b])) ts (cs.map pr) := mv3.upd (sbn hs3)
    have w4 : Sb st H (upd H3 st (.lst [V.int c5, .int b])) := w3.trans sb_upd
    generalize upd H3 st (.lst [V.int c5, .int b]) = H4 at hs4 ef4 mv4 w4
    refine ⟨_, rfl, _, rfl, _, rfl, ft, _, rfl, SqL.of ef4, fun p1 hp1 => ?_⟩
    have e1 := cut_take V.ref ts kz
    rw [e1]
    have u1 := same_upd hp1 (.lst ((ts.take kz).map V.ref))
    refine ⟨le2, fun t0 h0 => ⟨le1, fun l2 hl2 => ?_⟩⟩
    have u2 := same_upd h0 (.tup [V.int 0, .int 0])
    have u3 := same_upd hl2 (.lst [V.ref t0])
    have ln1 : (ts.take kz).length ≤ 25 := by rw [List.length_take]; omega
    refine ⟨p1, l2, _, _, rfl, rfl, u3 _ _ (u2 _ _ upd_same), upd_same, (by rw [List.length_map]; exact Nat.le_trans (show _ + 1 ≤ 26 by show (ts.take kz).length + 1 ≤ 26; omega) (by decide)), fun p3 hp3 => ?_⟩
    have u4 := same_upd hp3 (.lst ((ts.take kz).map V.ref ++ [V.ref t0]))
    have ef5 := (u1.trans (u2.trans (u3.trans u4))) _ _ ef4
    refine ⟨_, rfl, _, rfl, _, rfl, ft, _, rfl, SqL.of ef5, fun p4 hp4 => ?_⟩
    have e2 := cut_drop V.ref ts kz
    rw [e2]
    have u5 := same_upd hp4 (.lst ((ts.drop kz).map V.ref))
    have ln2 : (ts.drop kz).length ≤ 25 := by rw [List.length_drop]; omega
    refine ⟨p3, p4, _, _, rfl, rfl, u5 _ _ upd_same, upd_same, (by rw [List.length_append, List.length_map, List.length_map]; exact Nat.le_trans (show _ ≤ 51 by show (ts.take kz).length + 1 + (ts.drop kz).length ≤ 51; omega) (by decide)), fun p5 hp5 => ?_⟩
    have u6 := same_upd hp5 (.lst ((ts.take kz).map V.ref ++ [V.ref t0] ++ (ts.drop kz).map V.ref))
    have uu := u1.trans (u2.trans (u3.trans (u4.trans (u5.trans u6))))
    have hs5 := uu _ _ hs4
    have n5 := ne_new ((u1.trans (u2.trans (u3.trans (u4.trans u5)))) _ _ hs4) hp5
    have mvf : MvAt _ (ts.take kz ++ [t0] ++ ts.drop kz) ((cs.map pr).take kz ++ [pr (0, 0)] ++ (cs.map pr).drop kz) := (((mv4.tk kz).same uu).app (ts := ts.take kz) (us := [t0]) (ns := [pr (0, 0)]) ⟨(u3.trans (u4.trans (u5.trans u6))) _ _ upd_same, True.intro⟩).app ((mv4.dp kz).same uu)
    have w5 := w4.trans (Sb.of uu)
    refine ⟨_, rfl, st, c5, b, 1000, rfl, hs5, (by decide), (by decide), fun z2 c6 _ _ => ⟨_, _, rfl, rfl, le2, fun ct hct => ?_⟩⟩
    have u7 := same_upd hct (.tup [V.ref p5, .int (1 + z2)])
    have hp0 : H p5 = none := by
      cases e : H p5 with
      | none => rfl
      | some o => rw [(w4.trans (Sb.of (u1.trans (u2.trans (u3.trans (u4.trans u5)))))) p5 o n5 e] at hp5; cases hp5
    refine q ct p5 (cs.take kz ++ [(0, 0)] ++ cs.drop kz) (1 + z2) c6 _ ((w5.trans sb_upd).trans (Sb.of u7)) hp0 (u7 _ _ upd_same) n5 upd_same ⟨ts.take kz ++ [t0] ++ ts.drop kz, u7 _ _ ?_, ?_⟩ (by simp) ?_ (foot_nodup nd3.1 nd3.2.1 kz) (fun s hs => by
      rcases List.mem_append.mp hs with hs | hs
      · rcases List.mem_append.mp hs with hs | hs
        · exact nd3.2.2 s (List.mem_of_mem_take hs)
        · rw [List.mem_singleton.mp hs]
          exact ⟨by decide, by decide, by decide, by decide⟩
      · exact nd3.2.2 s (List.mem_of_mem_drop hs))
    · rw [upd_ne n5, upd_same, List.map_append, List.map_append]
      rfl
    · refine MvAt.same u7 (MvAt.upd (sbn hs5) ?_)
      have hm1 : (cs.take kz).map pr = (cs.map pr).take kz := by rw [List.map_take]
      have hm2 : (cs.drop kz).map pr = (cs.map pr).drop kz := by rw [List.map_drop]
      rw [List.map_append, List.map_append, hm1, hm2]
      exact mvf
    · rw [List.length_append, List.length_append, List.length_take, List.length_drop]
      show _ + 1 + _ ≤ 26
      omega
/-! ### _law_cell_at -/
noncomputable def spAt (K : PySem.W.Frag) : Sp := fun vs H Q _ => ∃ (L : Addr) (ns : List Int) (k : Int), vs = [.ref L, .int k] ∧ SqL K H L (ns.map V.int) ∧ 0 ≤ k ∧ ∀ z : Int, Q (.int z) H
theorem scAt : FnScope ["script", "k"] ["script", "k"] (defScope sAt) := ⟨rfl, rfl, rfl, by decide +kernel, rfl, by decide +kernel, by decide +kernel⟩
theorem ok_at (T : LawT mg) (F : Fun K "_law_cell_at" "_law_cell_at" sAt f fd') : FnOk P w K mg base (CX1 P w) 1 f fd' ["script", "k"] (spAt K) := by
  have nd := scAt.nd
  refine F.ok1 scAt (fun vs H Q E h => ?_) (fun cdv A outer s H vs Q E hr h => ?_)
  · obtain ⟨L, ns, k, rfl, _⟩ := h
    rfl
  obtain ⟨L, ns, k, rfl, hL, k0, q⟩ := h
  refine ⟨_, (pss_cons (ps_if (pt_cmpR op_lt (pv 1) (pe_callB call_len_seq rfl T.len PySem.boot_len (pa_cons (pv 0) pa_nil)) (nomark _)) (pss_one (ps_ret (pe_ix ix_list (pv 0) (pv 1) (fun _ _ => rfl)))) pss_nil)
    (pss_one (ps_ret pe_int))), ?_⟩
  refine ⟨_, rfl, _, rfl, L, _, rfl, .inl hL, _, _, rfl, rfl, _, rfl, ?_⟩
  refine ite2 (fun h => ?_) (fun _ => q _)
  have h' := of_decide_eq_true h
  rw [List.length_map] at h'
  obtain ⟨j, rfl⟩ : ∃ j : Nat, k = (j : Int) := ⟨k.toNat, by omega⟩
  have hj : j < ns.length := by omega
  exact ⟨_, rfl, _, rfl, L, _, _, .int ns[j], rfl, rfl, hL, atI_nat (by rw [List.getElem?_map, List.getElem?_eq_getElem hj]; rfl), q _⟩
/-! ### _law_drop -/
noncomputable def spDrop : Sp := fun vs H Q _ => ∃ (st : Addr) (c b h : Int), vs = [.ref st, .int h] ∧ H st = some (.lst [.int c, .int b]) ∧ 0 ≤ h ∧ h ≤ 100000 ∧ ∀ (n c' : Int) (H' : Hp), Sb st H H' → H' st = some (.lst [.int c', .int b]) → 0 ≤ n → Q (.int n) H'
theorem scDrop : FnScope ["state", "height", "kind"] ["state", "height"] (defScope sDrop) := ⟨rfl, rfl, rfl, by decide +kernel, rfl, by decide +kernel, by decide +kernel⟩
theorem ok_drop (FT : Fn P w K mg base "_law_take" 1 ["state", "many"] spTk) (F : Fun K "_law_drop" "_law_drop" sDrop f fd') : FnOk P w K mg base (CX1 P w) 2 f fd' ["state", "height"] spDrop := by
  have nd := scDrop.nd
  refine F.ok1 scDrop (fun vs H Q E h => ?_) (fun cdv A outer s H vs Q E hr h => ?_)
  · obtain ⟨st, c, b, h, rfl, _⟩ := h
    rfl
  obtain ⟨st, c, b, h, rfl, hst, h0, h9, q⟩ := h
  have hr1 : Room 1 _ := hr.mono (by decide)
  refine ⟨_, (pss_cons (ps_set (i := 2) nd rfl (Or.inl rfl) (pf_call FT hr1 rfl (pass1 (E := E)) (pa_cons (pv 0) (pa_cons pe_int pa_nil))))
    (pss_one (ps_ret (pe_ix ix_list (pe_lst (pa_cons pe_int (pa_cons (pf_call FT hr1 rfl (pass1 (E := E)) (pa_cons (pv 0) (pa_cons pe_int pa_nil))) (pa_cons (pf_call FT hr1 rfl (pass1 (E := E)) (pa_cons (pv 0) (pa_cons pe_int pa_nil))) (pa_cons (pf_call FT hr1 rfl (pass1 (E := E)) (pa_cons (pv 0) (pa_cons (pe_op op_add (pv 1) pe_int) pa_nil))) pa_nil))))) (pv 2) (fun _ _ => rfl))))), ?_⟩
  refine ⟨_, rfl, st, c, b, 4, rfl, hst, (by decide), (by decide), fun kd c1 k0 k4 => ?_⟩
  refine ⟨_, rfl, st, c1, b, 3, rfl, upd_same, (by decide), (by decide), fun z1 c2 a1 b1 => ?_⟩
  refine ⟨_, rfl, st, c2, b, 200, rfl, upd_same, (by decide), (by decide), fun z2 c3 a2 b2 => ?_⟩
  refine ⟨_, rfl, _, rfl, _, _, rfl, rfl, st, c3, b, _, rfl, upd_same, (by omega), (by omega), fun z3 c4 a3 b3 => ⟨(by show 4 ≤ sizeLine; decide), fun l hl => ?_⟩⟩
  rw [upd_upd, upd_upd, upd_upd] at hl ⊢
  have u := same_upd hl (.lst [V.int 0, .int z1, .int z2, .int z3])
  obtain ⟨n, hn, n0⟩ : ∃ n : Int, atI [V.int 0, V.int z1, V.int z2, V.int z3] kd = some (.int n) ∧ 0 ≤ n := by
    have : kd = 0 ∨ kd = 1 ∨ kd = 2 ∨ kd = 3 := by omega
    rcases this with rfl | rfl | rfl | rfl
    · exact ⟨0, rfl, by decide⟩
    · exact ⟨z1, rfl, a1⟩
    · exact ⟨z2, rfl, a2⟩
    · exact ⟨z3, rfl, a3⟩
  exact ⟨_, rfl, l, _, kd, .int n, rfl, rfl, SqL.of upd_same, hn, q n c4 _ (sb_upd.trans (Sb.of u)) (u _ _ upd_same) n0⟩
end
end Car

set_option maxHeartbeats 2000000
namespace Car
open PySem L2
/-! ### _law_rows -/
structure RwIn (H0 H : Hp) (b w : Addr) (rs ws : List Addr) (bed wished : List (List Int)) (wd n m : Nat) : Prop where
  sm : Same H0 H
  nb : H0 b = none
  nw : H0 w = none
  bw : b ≠ w
  hb : H b = some (.lst (rs.map V.ref))
  hw : H w = some (.lst (ws.map V.ref))
  rb : RowsAt H rs bed
  rq : RowsAt H ws wished
  lb : bed.length = n
  lw : wished.length = m
  wb : ∀ r ∈ bed, r.length = wd
  ww : ∀ r ∈ wished, r.length = wd
  nn : ∀ r ∈ wished, ∀ v ∈ r, 0 ≤ v
  ob : ∀ r ∈ rs, r ≠ b ∧ r ≠ w
  ow : ∀ r ∈ ws, r ≠ b ∧ r ≠ w
section
variable {H0 H H' : Hp} {b w : Addr} {rs ws : List Addr} {bed wished : List (List Int)} {wd n m : Nat}
theorem RwIn.same (M : RwIn H0 H b w rs ws bed wished wd n m) (s : Same H H') : RwIn H0 H' b w rs ws bed wished wd n m :=
  ⟨M.sm.trans s, M.nb, M.nw, M.bw, s _ _ M.hb, s _ _ M.hw, M.rb.same s, M.rq.same s, M.lb, M.lw, M.wb, M.ww, M.nn, M.ob, M.ow⟩
theorem RwIn.addB (M : RwIn H0 H b w rs ws bed wished wd n m) {r : Addr} {row : List Int} (hr : H r = some (.lst (row.map V.int))) (nr : r ≠ b ∧ r ≠ w) (hl : row.length = wd) : RwIn H0 (upd H b (.lst (rs.map V.ref ++ [.ref r]))) b w (rs ++ [r]) ws (bed ++ [row]) wished wd (n + 1) m := by
  refine ⟨same_in M.sm M.nb, M.nb, M.nw, M.bw, by rw [upd_same, List.map_append]; rfl, by rw [upd_ne (Ne.symm M.bw)]; exact M.hw, RowsAt.snoc (by rw [upd_ne nr.1]; exact hr) (M.rb.keep fun x hx o e => by rw [upd_ne (M.ob x hx).1]; exact e), M.rq.keep fun x hx o e => by rw [upd_ne (M.ow x hx).1]; exact e, by rw [List.length_append, M.lb]; rfl, M.lw, fun x hx => ?_, M.ww, M.nn, fun x hx => ?_, M.ow⟩
  · rcases List.mem_append.mp hx with hx | hx
    · exact M.wb x hx
    · rw [show x = row by simpa using hx]; exact hl
  · rcases List.mem_append.mp hx with hx | hx
    · exact M.ob x hx
    · rw [show x = r by simpa using hx]; exact nr
theorem RwIn.wish (M : RwIn H0 H b w rs ws bed wished wd n m) {r : Addr} {row : List Int} (hr : H r = some (.lst (row.map V.int))) (nr : r ≠ b ∧ r ≠ w) (hl : row.length = wd) (h0 : ∀ v ∈ row, 0 ≤ v) : RwIn H0 (upd H w (.lst (ws.map V.ref ++ [.ref r]))) b w rs (ws ++ [r]) bed (wished ++ [row]) wd n (m + 1) := by
  refine ⟨same_in M.sm M.nw, M.nb, M.nw, M.bw, by rw [upd_ne M.bw]; exact M.hb, by rw [upd_same, List.map_append]; rfl, M.rb.keep fun x hx o e => by rw [upd_ne (M.ob x hx).2]; exact e, RowsAt.snoc (by rw [upd_ne nr.2]; exact hr) (M.rq.keep fun x hx o e => by rw [upd_ne (M.ow x hx).2]; exact e), M.lb, by rw [List.length_append, M.lw]; rfl, M.wb, fun x hx => ?_, fun x hx => ?_, M.ob, fun x hx => ?_⟩
  · rcases List.mem_append.mp hx with hx | hx
    · exact M.ww x hx
    · rw [show x = row by simpa using hx]; exact hl
  · rcases List.mem_append.mp hx with hx | hx
    · exact M.nn x hx
    · rw [show x = row by simpa using hx]; exact h0
  · rcases List.mem_append.mp hx with hx | hx
    · exact M.ow x hx
    · rw [show x = r by simpa using hx]; exact nr
end
/-- no number higher -/
noncomputable def LeL (us vs : List Int) : Prop := ∀ (j : Nat) (u v : Int), us[j]? = some u → vs[j]? = some v → u ≤ v
noncomputable def LeR (a b : List (List Int)) : Prop := ∀ (i : Nat) (r s : List Int), a[i]? = some r → b[i]? = some s → LeL r s
theorem snoc_get {α : Type} {us : List α} {x : α} {j : Nat} {u : α} (h : (us ++ [x])[j]? = some u) : (j < us.length ∧ us[j]? = some u) ∨ (j = us.length ∧ u = x) := by
  by_cases e : j < us.length
  · rw [List.getElem?_append_left e] at h
    exact .inl ⟨e, h⟩
  · rw [List.getElem?_append_right (by omega)] at h
    have hj := (List.getElem?_eq_some_iff.mp h).1
    have e2 : j - us.length = 0 := by simp at hj; omega
    rw [e2] at h
    cases h
    exact .inr ⟨by omega, rfl⟩
theorem LeL.snoc {us vs : List Int} {x v : Int} (h : LeL us vs) (e : vs[us.length]? = some v) (l : x ≤ v) : LeL (us ++ [x]) vs := fun j u w hu hw => by
  rcases snoc_get hu with ⟨_, h1⟩ | ⟨rfl, rfl⟩
  · exact h j u w h1 hw
  · rw [e] at hw
    cases hw
    exact l
theorem LeR.snoc {a b : List (List Int)} {r s : List Int} (h : LeR a b) (e : a.length = b.length) (l : LeL r s) : LeR (a ++ [r]) (b ++ [s]) := fun i x y hx hy => by
  rcases snoc_get hx with ⟨i1, h1⟩ | ⟨rfl, rfl⟩
  · rcases snoc_get hy with ⟨_, h2⟩ | ⟨i2, _⟩
    · exact h i x y h1 h2
    · omega
  · rcases snoc_get hy with ⟨i2, _⟩ | ⟨_, rfl⟩
    · omega
    · exact l
section
variable {P : Program} {w : World} {K : PySem.W.Frag} {mg : Str → Option Value} {base : Heap} {f : Addr} {fd' : FuncData}
noncomputable def spRows (K : PySem.W.Frag) : Sp := fun vs H Q _ => ∃ (L : Addr) (ns : List Int) (mx : Int) (wd dp : Nat), vs = [.ref L, .int mx, .int (wd : Int), .int (dp : Int)] ∧ SqL K H L (ns.map V.int) ∧ 0 ≤ mx ∧ mx ≤ 1 ∧ 1 ≤ wd ∧ wd ≤ 40 ∧ 1 ≤ dp ∧ dp ≤ 40 ∧
  ∀ (t b w : Addr) (rs ws : List Addr) (bed wished : List (List Int)) (H' : Hp), Same H H' → H' t = some (.tup [.ref b, .ref w]) → H b = none → H w = none → (∀ r ∈ rs, H r = none) → (∀ r ∈ ws, H r = none) → H' b = some (.lst (rs.map V.ref)) → RowsAt H' rs bed → H' w = some (.lst (ws.map V.ref)) → RowsAt H' ws wished → Rect bed → Alike bed wished → Small bed → LeR wished bed → (∀ r ∈ bed, ∀ v ∈ r, v ≤ 1000) → ins bed (0, 0) = true → Q (.ref t) H'
theorem scRows : FnScope ["script", "mixed", "wide", "deep", "bed", "wished", "y", "state", "most", "base", "row"] ["script", "mixed", "wide", "deep"] (defScope sRows) := ⟨rfl, rfl, rfl, by decide +kernel, rfl, by decide +kernel, by decide +kernel⟩
theorem ndx : (["x", "state", "most", "base"] : List Str).Nodup := by decide +kernel
theorem alike_of {a b : List (List Int)} {wd n : Nat} (h1 : a.length = n) (h2 : b.length = n) (w1 : ∀ r ∈ a, r.length = wd) (w2 : ∀ r ∈ b, r.length = wd) : Alike a b :=
  ⟨h1.trans h2.symm, fun i r s x y => (w1 r (List.mem_of_getElem? x)).trans (w2 s (List.mem_of_getElem? y)).symm⟩
theorem rect_of {a : List (List Int)} {wd : Nat} (h1 : a ≠ []) (w1 : ∀ r ∈ a, r.length = wd) : Rect a := by
  refine ⟨h1, fun r hr => ?_⟩
  cases a with
  | nil => exact absurd rfl h1
  | cons r0 a => rw [w1 r hr]; exact (w1 r0 List.mem_cons_self).symm
theorem ok_rows (T : LawT mg) (FT : Fn P w K mg base "_law_take" 1 ["state", "many"] spTk) (FA : Fn P w K mg base "_law_cell_at" 1 ["script", "k"] (spAt K)) (FD : Fn P w K mg base "_law_drop" 2 ["state", "height"] spDrop) (F : Fun K "_law_rows" "_law_rows" sRows f fd') :
    FnOk P w K mg base (CX1 P w) 3 f fd' ["script", "mixed", "wide", "deep"] (spRows K) := by
  have nd := scRows.nd
  refine F.ok1 scRows (fun vs H Q E h => ?_) (fun cdv A outer s H vs Q E hr h => ?_)
  · obtain ⟨L, ns, mx, wd, dp, rfl, _⟩ := h
    rfl
  obtain ⟨L, ns, mx, wd, dp, rfl, hL, mx0, mx1, wd1, wd40, dp1, dp40, q⟩ := h
  have hr1 : Room 1 _ := hr.mono (by decide)
  have hr2 : Room 2 _ := hr.mono (by decide)
  refine ⟨_, (pss_cons (ps_set (i := 4) nd rfl (Or.inl rfl) (pe_lst pa_nil))
    (pss_cons (ps_set (i := 5) nd rfl (Or.inl rfl) (pe_lst pa_nil))
    (pss_cons (ps_for own1 rfl (pi_range1 rfl T.range (pa_cons (pv 3) pa_nil)) (pg_name (i := 6) nd rfl (Or.inl rfl)) (pss_cons (ps_set (i := 7) nd rfl (Or.inr rfl) (pe_lst (pa_cons (pe_op op_add (pf_call FA hr1 rfl (pass1 (E := E)) (pa_cons (pv 0) (pa_cons (pe_op op_add pe_int (pv 6)) pa_nil))) (pe_op op_mul (pv 1) (pv 6))) (pa_cons (pv 1) pa_nil))))
    (pss_cons (ps_set (i := 8) nd rfl (Or.inr rfl) (pe_ix ix_list (pe_lst (pa_cons pe_int (pa_cons pe_int (pa_cons pe_int pa_nil)))) (pf_call FT hr1 rfl (pass1 (E := E)) (pa_cons (pv 7) (pa_cons pe_int pa_nil))) (fun _ _ => rfl)))
    (pss_cons (ps_set (i := 9) nd rfl (Or.inr rfl) (pf_call FT hr1 rfl (pass1 (E := E)) (pa_cons (pv 7) (pa_cons (pe_op op_sub pe_int (pv 8)) pa_nil))))
    (pss_cons (ps_setC (i := 10) (own := ["x"]) (capn := ["state", "most", "base"]) (capI := [7, 8, 9]) nd rfl (Or.inl rfl) rfl rfl (blkC (defScope sRows) rfl rfl (by decide +kernel) rfl (fun y hy => by rcases List.mem_cons.mp hy with rfl | hy; exact ⟨rfl, rfl⟩; rcases List.mem_cons.mp hy with rfl | hy; exact ⟨rfl, rfl⟩; rcases List.mem_cons.mp hy with rfl | hy; exact ⟨rfl, rfl⟩; cases hy)) (pi_range1 rfl T.range (pa_cons (pv 2) pa_nil)) (fun _ _ _ _ _ _ => pg_name (i := 0) ndx rfl (Or.inl rfl)) (fun _ _ _ _ _ _ => pifs_nil) (fun _ _ _ _ _ _ => (pe_op op_add (pv 3) (pf_call FT hr1 rfl passN (pa_cons (pv 1) (pa_cons (pv 2) pa_nil))))))
    (pss_cons (ps_expr (pe_bm PySem.F.plainAttrs_list PySem.F.slot_list_append PySem.F.type_list_append mt_append (pv 4) (pa_cons (pv 10) pa_nil)))
    (pss_one (ps_expr (pe_bm PySem.F.plainAttrs_list PySem.F.slot_list_append PySem.F.type_list_append mt_append (pv 5) (pa_cons (pe_lc (own := ["height"]) (capn := ["state"]) (capI := [7]) rfl (blkC (defScope sRows) rfl rfl (by decide +kernel) rfl (fun y hy => by rcases List.mem_cons.mp hy with rfl | hy; exact ⟨rfl, rfl⟩; cases hy)) (pi_list (pv 10)) (fun _ _ _ _ _ _ => pg_name (i := 0) (nd2 (x := "height") (y := "state") (by decide +kernel)) rfl (Or.inl rfl)) (fun _ _ _ _ _ _ => pifs_nil) (fun _ _ _ _ _ _ => (pe_callB (call_max2 rfl) rfl T.max bt_max (pa_cons pe_int (pa_cons (pe_op op_sub (pv 0) (pf_call FD hr2 rfl passN (pa_cons (pv 1) (pa_cons (pv 0) pa_nil)))) pa_nil))))) pa_nil))))))))))
    (pss_one (ps_ret (pe_tup (pa_cons (pv 4) (pa_cons (pv 5) pa_nil)))))))), ?_⟩
  refine ⟨Nat.zero_le _, fun b hb => ⟨Nat.zero_le _, fun wh hwh => ?_⟩⟩
  have u1 := same_upd hb (.lst [])
  have u2 := same_upd hwh (.lst [])
  have eb : upd H b (.lst []) b = some (.lst []) := upd_same
  have M0 : RwIn H (upd (upd H b (.lst [])) wh (.lst [])) b wh [] [] [] [] wd 0 0 := ⟨u1.trans u2, hb, u1.free hwh, Ne.symm (ne_new eb hwh), u2 _ _ eb, upd_same, True.intro, True.intro, rfl, rfl, fun _ h => (List.not_mem_nil h).elim, fun _ h => (List.not_mem_nil h).elim, fun _ h => (List.not_mem_nil h).elim, fun _ h => (List.not_mem_nil h).elim, fun _ h => (List.not_mem_nil h).elim⟩
  generalize upd (upd H b (.lst [])) wh (.lst []) = H1 at M0
  clear u1 u2 eb
  refine ⟨_, rfl, _, rfl, (by omega), (by omega), ?_⟩
  rw [Int.toNat_natCast]
  refine for_range (n := dp) (fun i σ H2 => ∃ (x6 x7 x8 x9 x10 : Option V) (rs ws : List Addr) (bed wished : List (List Int)), σ = [some (.ref L), some (.int mx), some (.int (wd : Int)), some (.int (dp : Int)), some (.ref b), some (.ref wh), x6, x7, x8, x9, x10] ∧ RwIn H H2 b wh rs ws bed wished wd i i ∧ LeR wished bed ∧ (∀ r ∈ bed, ∀ v ∈ r, v ≤ 1000) ∧ (∀ r ∈ rs, H r = none) ∧ ∀ r ∈ ws, H r = none)
    ⟨none, none, none, none, none, [], [], [], [], rfl, M0, (fun _ _ _ h => by cases h), fun _ h => (List.not_mem_nil h).elim, fun _ h => (List.not_mem_nil h).elim, fun _ h => (List.not_mem_nil h).elim⟩ ?_ ?_
  · rintro i σ G hi ⟨x6, x7, x8, x9, x10, rs, ws, bed, wished, rfl, M, hle, hbd, hn1, hn2⟩
    refine ⟨_, rfl, _, rfl, _, _, rfl, rfl, L, ns, _, rfl, M.sm.seq hL, (by omega), fun z => ⟨_, rfl, _, rfl, _, _, rfl, rfl, .inl ⟨by omega, by omega⟩, _, _, rfl, rfl, _, rfl, le2, fun st hst => ?_⟩⟩
    have u1 := same_upd hst (.lst [V.int (z + mx * (0 + (i : Int))), .int mx])
    have es1 : upd G st (.lst [V.int (z + mx * (0 + (i : Int))), .int mx]) st = some (.lst [V.int (z + mx * (0 + (i : Int))), .int mx]) := upd_same
    have M1 := M.same u1
    have nsb := ne_new M.hb hst
    have nsw := ne_new M.hw hst
    generalize upd G st (.lst [V.int (z + mx * (0 + (i : Int))), .int mx]) = G1 at es1 M1 u1
    generalize z + mx * (0 + (i : Int)) = c0 at es1
    refine ⟨le3, fun l1 hl1 => ?_⟩
    have u2 := same_upd hl1 (.lst [V.int 1001, .int 5, .int 40])
    have n1 := ne_new es1 hl1
    refine ⟨_, rfl, st, c0, mx, 3, rfl, u2 _ _ es1, (by decide), (by decide), fun z2 c2 a2 b2 => ?_⟩
    have e1 : upd (upd G1 l1 (.lst [V.int 1001, .int 5, .int 40])) st (.lst [V.int c2, .int mx]) l1 = some (.lst [V.int 1001, .int 5, .int 40]) := by rw [upd_ne n1, upd_same]
    obtain ⟨mo, hmo, mo0, mo9⟩ : ∃ mo : Int, atI [V.int 1001, V.int 5, V.int 40] z2 = some (.int mo) ∧ 0 < mo ∧ mo ≤ 1001 := by
      have : z2 = 0 ∨ z2 = 1 ∨ z2 = 2 := by omega
      rcases this with rfl | rfl | rfl
      · exact ⟨1001, rfl, by decide, by decide⟩
      · exact ⟨5, rfl, by decide, by decide⟩
      · exact ⟨40, rfl, by decide, by decide⟩
    refine ⟨l1, _, z2, .int mo, rfl, rfl, SqL.of e1, hmo, ?_⟩
    refine ⟨_, rfl, _, rfl, _, _, rfl, rfl, st, c2, mx, _, rfl, upd_same, (by omega), (by omega), fun z3 c3 a3 b3 => ?_⟩
    rw [upd_upd]
    have es3 : upd (upd G1 l1 (.lst [V.int 1001, .int 5, .int 40])) st (.lst [V.int c3, .int mx]) st = some (.lst [V.int c3, .int mx]) := upd_same
    -- nothing of what stood ahead of the state has changed
    have k3 : Same G (upd (upd G1 l1 (.lst [V.int 1001, .int 5, .int 40])) st (.lst [V.int c3, .int mx])) := fun x o e => by
      rw [upd_ne (ne_of_none e hst)]
      exact u2 _ _ (u1 _ _ e)
    generalize upd (upd G1 l1 (.lst [V.int 1001, .int 5, .int 40])) st (.lst [V.int c3, .int mx]) = G3 at es3 k3
    clear e1 n1 u2 hl1 es1 M1 u1
    refine ⟨_, rfl, _, rfl, (by omega), (by omega), fun D hD => ?_⟩
    rw [Int.toNat_natCast]
    have nD := ne_new es3 hD
    have hDG := k3.free hD
    refine ⟨Wd wd (fun j σ2 acc2 H6 => ∃ (z2 : Option V) (vs : List Int) (c6 : Int), σ2 = [z2, some (.ref st), some (.int mo), some (.int z3)] ∧ acc2 = vs.map V.int ∧ vs.length = j ∧ (∀ v ∈ vs, 0 ≤ v ∧ v ≤ 1000) ∧ H6 st = some (.lst [.int c6, .int mx]) ∧ Same G H6 ∧ H6 D = some (.lst acc2)),
      wd_0 ⟨none, [], c3, rfl, rfl, rfl, fun _ h => (List.not_mem_nil h).elim, by rw [upd_ne (Ne.symm nD)]; exact es3, k3.trans (same_upd hD _), upd_same⟩, ?_⟩
    rintro j jm σ2 acc2 H6 ⟨rfl, hj0, z2', vs, c6, rfl, rfl, vl, vb, hs6, w6, hD6⟩
    refine rg_ask hj0 (fun hj => ?_) (fun hend => ?_)
    · refine ⟨_, rfl, _, rfl, _, rfl, st, c6, mx, mo, rfl, hs6, mo0, (by omega), fun v c7 v0 v9 => ⟨_, _, rfl, rfl, ?_⟩⟩
      have e6 : upd H6 st (.lst [V.int c7, .int mx]) D = some (.lst (vs.map V.int)) := by rw [upd_ne nD]; exact hD6
      refine ⟨e6, ?_, wd_next hj ⟨_, vs ++ [z3 + v], c7, rfl, by rw [List.map_append]; rfl, by rw [List.length_append, vl]; rfl, fun x hx => ?_, by rw [upd_ne (Ne.symm nD), upd_same], fun x o e => ?_, upd_same⟩⟩
      · rw [List.length_map, vl]
        exact line3 (show j ≤ 1000 by omega) (by decide)
      · rcases List.mem_append.mp hx with hx | hx
        · exact vb x hx
        · rw [show x = z3 + v by simpa using hx]
          exact ⟨by omega, by omega⟩
      · rw [upd_ne (ne_of_none e hDG), upd_ne (ne_of_none e hst)]
        exact w6 x o e
    · rw [hend] at vl
      have M6 := M.same w6
      have nDb := ne_new M.hb hDG
      have nDw := ne_new M.hw hDG
      have rsl := M.rb.len
      have wsl := M.rq.len
      have lb := M.lb
      have lw := M.lw
      refine ⟨_, rfl, .inl ⟨rfl, _, SqL.of M6.hb⟩, _, rfl, b, _, .ref D, rfl, rfl, M6.hb, (by rw [List.length_map]; exact line3 (show rs.length ≤ 1000 by omega) (by decide)), ?_⟩
      have M7 := M6.addB hD6 ⟨nDb, nDw⟩ vl
      have hD7 : upd H6 b (.lst (rs.map V.ref ++ [V.ref D])) D = some (.lst (vs.map V.int)) := by rw [upd_ne nDb]; exact hD6
      have hs7 : upd H6 b (.lst (rs.map V.ref ++ [V.ref D])) st = some (.lst [.int c6, .int mx]) := by rw [upd_ne nsb]; exact hs6
      generalize upd H6 b (.lst (rs.map V.ref ++ [V.ref D])) = H7 at M7 hD7 hs7
      refine ⟨_, rfl, .inl ⟨rfl, _, SqL.of M7.hw⟩, _, rfl, D, rfl, ⟨_, SqL.of hD7⟩, fun D2 hD2 => ?_⟩
      have nD2 := ne_new hs7 hD2
      refine ⟨Wd vs.length (fun j σ2 acc2 H8 => ∃ (z2 : Option V) (us : List Int) (c8 : Int), σ2 = [z2, some (.ref st)] ∧ acc2 = us.map V.int ∧ us.length = j ∧ (∀ v ∈ us, 0 ≤ v) ∧ LeL us vs ∧ H8 st = some (.lst [.int c8, .int mx]) ∧ Sb st H7 H8 ∧ H8 D2 = some (.lst acc2)),
        wd_0 ⟨none, [], c6, rfl, rfl, rfl, fun _ h => (List.not_mem_nil h).elim, (fun _ _ _ h => by cases h), by rw [upd_ne (Ne.symm nD2)]; exact hs7, Sb.of (same_upd hD2 _), upd_same⟩, ?_⟩
      rintro j jm σ2 acc2 H8 ⟨rfl, hj0, z2', us, c8, rfl, rfl, ul, ub, ule, hs8, w8, hD8⟩
      refine lc_ask (K := K) (xs := vs.map V.int) (SqL.of (w8 _ _ nD hD7)) (by rw [List.length_map]; exact hj0) (fun x hx hj => ?_) (fun hend2 => ?_)
      · have hj' : j < vs.length := by rw [List.length_map] at hj; exact hj
        obtain ⟨hv0, hv9⟩ := vb _ (List.getElem_mem hj')
        rw [List.getElem?_map, List.getElem?_eq_getElem hj'] at hx
        cases hx
        have evj : vs[us.length]? = some vs[j] := by rw [ul]; exact List.getElem?_eq_getElem hj'
        generalize vs[j] = v at hv0 hv9 evj
        refine ⟨_, rfl, _, rfl, _, rfl, st, c8, mx, v, rfl, hs8, hv0, (by omega), fun n c9 H9 w9 hs9 hn0 => ⟨_, _, rfl, rfl, _, _, rfl, ?_⟩⟩
        have e9 := w9 _ _ nD2 hD8
        refine ⟨e9, ?_, wd_next hj' ⟨_, us ++ [if v - n > 0 then v - n else 0], c9, rfl, by rw [List.map_append]; rfl, by rw [List.length_append, ul]; rfl, fun y hy => ?_, ule.snoc evj (by split <;> omega), by rw [upd_ne (Ne.symm nD2)]; exact hs9, fun y o ny e => ?_, upd_same⟩⟩
        · rw [List.length_map, ul]
          exact line3 (show j ≤ 1000 by omega) (by decide)
        · rcases List.mem_append.mp hy with hy | hy
          · exact ub y hy
          · rw [show y = if v - n > 0 then v - n else 0 by simpa using hy]
            split <;> omega
        · rw [upd_ne (ne_of_none e hD2)]
          exact w9 y o ny (w8 y o ny e)
      · rw [List.length_map] at hend2
        rw [hend2, vl] at ul
        have hw8 := w8 _ _ (Ne.symm nsw) M7.hw
        -- the state is no part of the beds
        have ns : Same H H8 := fun x o e => w8 x o (fun z => by rw [z, M.sm.free hst] at e; cases e) (M7.sm x o e)
        have rk : ∀ r ∈ rs ++ [D], r ≠ st := fun r hr z => by
          obtain ⟨xs, hx⟩ := M7.rb.mem hr
          rcases List.mem_append.mp hr with hr | hr
          · obtain ⟨ys, hy⟩ := M.rb.mem hr
            rw [z, hst] at hy
            cases hy
          · exact nD ((List.mem_singleton.mp hr).symm.trans z)
        have wk : ∀ r ∈ ws, r ≠ st := fun r hr z => by
          obtain ⟨ys, hy⟩ := M.rq.mem hr
          rw [z, hst] at hy
          cases hy
        have M8 : RwIn H H8 b wh (rs ++ [D]) ws (bed ++ [vs]) wished wd (i + 1) i := ⟨ns, M7.nb, M7.nw, M7.bw, w8 _ _ (Ne.symm nsb) M7.hb, hw8, M7.rb.keep fun r hr o e => w8 r o (rk r hr) e, M7.rq.keep fun r hr o e => w8 r o (wk r hr) e, M7.lb, M7.lw, M7.wb, M7.ww, M7.nn, M7.ob, M7.ow⟩
        refine ⟨wh, _, .ref D2, rfl, rfl, hw8, (by rw [List.length_map]; exact line3 (show ws.length ≤ 1000 by omega) (by decide)), ?_⟩
        have nb2 := ne_new M7.hb hD2
        have nw2 := ne_new M7.hw hD2
        exact ⟨_, _, _, _, _, rs ++ [D], ws ++ [D2], bed ++ [vs], wished ++ [us], rfl, M8.wish hD8 ⟨nb2, nw2⟩ ul ub, hle.snoc (by rw [M.lb, M.lw]) ule, fun r hr => by
          rcases List.mem_append.mp hr with hr | hr
          · exact hbd r hr
          · rw [show r = vs by simpa using hr]; exact fun v hv => (vb v hv).2, fun r hr => by
          rcases List.mem_append.mp hr with hr | hr
          · exact hn1 r hr
          · rw [show r = D by simpa using hr]; exact M.sm.free hDG, fun r hr => by
          rcases List.mem_append.mp hr with hr | hr
          · exact hn2 r hr
          · rw [show r = D2 by simpa using hr]; exact M7.sm.free hD2⟩
  · rintro σ H2 ⟨x6, x7, x8, x9, x10, rs, ws, bed, wished, rfl, M, hle, hbd, hn1, hn2⟩
    refine ⟨_, rfl, _, rfl, le2, fun t ht => ?_⟩
    have u := same_upd ht (.tup [V.ref b, .ref wh])
    have M1 := M.same u
    have b0 : bed ≠ [] := fun z => by
      have := M.lb
      rw [z] at this
      have z2 : (0 : Nat) = dp := this
      omega
    exact q t b wh rs ws bed wished _ M1.sm upd_same M.nb M.nw hn1 hn2 M1.hb M1.rb M1.hw M1.rq (rect_of b0 M.wb) (alike_of M.lb M.lw M.wb M.ww) ⟨by rw [M.lb]; exact dp40, fun r hr => by rw [M.wb r hr]; exact wd40⟩ hle hbd (by
      have hl := M.lb
      have hw := M.wb
      revert hl hw b0
      cases bed with
      | nil => intro b0; exact absurd rfl b0
      | cons r0 rr =>
        intro b0 hl hw
        have h0 := hw r0 List.mem_cons_self
        exact decide_eq_true ⟨show (0 : Int) ≤ 0 by decide, show (0 : Int) < ((r0 :: rr).length : Int) by omega, show (0 : Int) ≤ 0 by decide, show (0 : Int) < (r0.length : Int) by omega⟩)
end
end Car

set_option maxHeartbeats 2000000
namespace Car
open PySem L2
/-- the feet's lists are not at D -/
noncomputable def CtsO (H : Hp) (D : Addr) : List Addr → List Tool → Prop
  | [], [] => True
  | c :: cs, t :: ts => (∃ ft, ft ≠ D ∧ H c = some (.tup [.ref ft, .int t.2]) ∧ FtAt H ft t.1) ∧ CtsO H D cs ts
  | _, _ => False
theorem CtsO.cts {H : Hp} {D : Addr} : ∀ {cs : List Addr} {ts : List Tool}, CtsO H D cs ts → CtsAt H cs ts
  | [], [], _ => True.intro
  | _ :: _, _ :: _, h => by
    obtain ⟨⟨ft, _, a, b⟩, r⟩ := h
    exact ⟨⟨ft, a, b⟩, CtsO.cts r⟩
  | [], _ :: _, h => h.elim
  | _ :: _, [], h => h.elim
theorem CtsO.snoc {H : Hp} {D c : Addr} {t : Tool} (e : ∃ ft, ft ≠ D ∧ H c = some (.tup [.ref ft, .int t.2]) ∧ FtAt H ft t.1) : ∀ {cs : List Addr} {ts : List Tool}, CtsO H D cs ts → CtsO H D (cs ++ [c]) (ts ++ [t])
  | [], [], _ => ⟨e, True.intro⟩
  | _ :: _, _ :: _, h => ⟨h.1, CtsO.snoc e h.2⟩
  | [], _ :: _, h => h.elim
  | _ :: _, [], h => h.elim
theorem CtsO.keep {H H' : Hp} {D : Addr} (k : ∀ x o, x ≠ D → H x = some o → H' x = some o) (hD : ∃ xs, H D = some (.lst xs)) : ∀ {cs : List Addr} {ts : List Tool}, CtsO H D cs ts → CtsO H' D cs ts
  | [], [], _ => True.intro
  | c :: _, t :: _, h => by
    obtain ⟨xs, hD'⟩ := hD
    have nt : ∀ x m, H x = some (.tup m) → x ≠ D := fun x m e z => by rw [z, hD'] at e; cases e
    obtain ⟨⟨ft, n, a, ⟨ts, b1, b2⟩⟩, r⟩ := h
    refine ⟨⟨ft, n, k _ _ (nt _ _ a) a, ts, k _ _ n b1, ?_⟩, CtsO.keep k ⟨xs, hD'⟩ r⟩
    exact mv_keep (a := D) k (fun m e => by rw [hD'] at e; cases e) b2
  | [], _ :: _, _ => by rename_i h; exact h.elim
  | _ :: _, [], _ => by rename_i h; exact h.elim
/-- kept apart from st, where D alone changes, and from which they are kept apart too -/
theorem CtsO.keepD {H H' : Hp} {st D : Addr} : ∀ {cs : List Addr} {ts : List Tool}, CtsO H st cs ts → CtsO H D cs ts → (∀ x o, x ≠ D → H x = some o → H' x = some o) → (∃ xs, H D = some (.lst xs)) → CtsO H' st cs ts
  | [], [], _, _, _, _ => True.intro
  | c :: _, t :: _, h, g, k, hD => by
    obtain ⟨xs, hD'⟩ := hD
    have nt : ∀ x m, H x = some (.tup m) → x ≠ D := fun x m e z => by rw [z, hD'] at e; cases e
    obtain ⟨⟨ft, n, a, ⟨ts, b1, b2⟩⟩, r⟩ := h
    obtain ⟨⟨ft', n', a', _⟩, r'⟩ := g
    have e : ft' = ft := by rw [a] at a'; cases a'; rfl
    subst e
    refine ⟨⟨ft', n, k _ _ (nt _ _ a) a, ts, k _ _ n' b1, ?_⟩, CtsO.keepD r r' k ⟨xs, hD'⟩⟩
    exact mv_keep (a := D) k (fun m e => by rw [hD'] at e; cases e) b2
  | [], _ :: _, h, _, _, _ => h.elim
  | _ :: _, [], h, _, _, _ => h.elim
/-- a bed that is not at st -/
noncomputable def OfB (H : Hp) (st b : Addr) (rows : List (List Int)) : Prop := ∃ rs, H b = some (.lst (rs.map V.ref)) ∧ RowsAt H rs rows ∧ b ≠ st ∧ st ∉ rs
theorem OfB.bd {H : Hp} {st b : Addr} {rows : List (List Int)} (h : OfB H st b rows) : BdAt H b rows := by
  obtain ⟨rs, a, c, _⟩ := h
  exact ⟨rs, a, c⟩
theorem OfB.keep {H H' : Hp} {st b : Addr} {rows : List (List Int)} (h : OfB H st b rows) (s : Sb st H H') : OfB H' st b rows := by
  obtain ⟨rs, a, c, d, e⟩ := h
  exact ⟨rs, s _ _ d a, c.keep (fun r hr o x => s r o (fun z => e (by rw [← z]; exact hr)) x), d, e⟩
theorem OfB.same {H H' : Hp} {st b : Addr} {rows : List (List Int)} (h : OfB H st b rows) (s : Same H H') : OfB H' st b rows := h.keep (Sb.of s)
noncomputable def OfS (H : Hp) (st sh : Addr) (ts : List Tool) : Prop := ∃ cs, H sh = some (.lst (cs.map V.ref)) ∧ CtsO H st cs ts ∧ sh ≠ st
theorem OfS.sh {H : Hp} {st sh : Addr} {ts : List Tool} (h : OfS H st sh ts) : ShAt H sh ts := by
  obtain ⟨cs, a, c, _⟩ := h
  exact ⟨cs, a, c.cts⟩
theorem OfS.keep {H H' : Hp} {st sh : Addr} {ts : List Tool} {xs : List V} (h : OfS H st sh ts) (e : H st = some (.lst xs)) (s : Sb st H H') : OfS H' st sh ts := by
  obtain ⟨cs, a, c, d⟩ := h
  exact ⟨cs, s _ _ d a, c.keep s ⟨xs, e⟩, d⟩
section
variable {P : Program} {w : World} {K : PySem.W.Frag} {mg : Str → Option Value} {base : Heap} {f : Addr} {fd' : FuncData}
noncomputable def spCase (K : PySem.W.Frag) : Sp := fun vs H Q _ => ∃ (L : Addr) (ns : List Int), vs = [.ref L] ∧ SqL K H L (ns.map V.int) ∧
  ∀ (t b w sh : Addr) (turn : Int) (bed wished : List (List Int)) (tools : List Tool) (H' : Hp), Same H H' → H' t = some (.tup [.ref b, .ref w, .ref sh, .int turn]) → BdAt H' b bed → BdAt H' w wished → ShAt H' sh tools → Rect bed → Alike bed wished → Small bed → (∀ t ∈ tools, t.1.length ≤ 26 ∧ t.1.Nodup ∧ ∀ s ∈ t.1, Nr s) → tools.length ≤ 6 → 0 ≤ turn → Q (.ref t) H'
theorem scCase : FnScope ["script", "state", "wide", "deep", "count", "most", "sizes", "bed", "wished", "shelf"] ["script"] (defScope sCase) := ⟨rfl, rfl, rfl, by decide +kernel, rfl, by decide +kernel, by decide +kernel⟩
theorem pick_rev (x y : V) : pickV [x, y] none none (some (-1)) = [y, x] := by
  unfold pickV
  have e : sliceRange (sliceBounds none none (some (-1)) [x, y].length).1 (sliceBounds none none (some (-1)) [x, y].length).2.1 (sliceBounds none none (some (-1)) [x, y].length).2.2 = [1, 0] := by
    show sliceRange (sliceBounds none none (some (-1)) 2).1 (sliceBounds none none (some (-1)) 2).2.1 (sliceBounds none none (some (-1)) 2).2.2 = [1, 0]
    decide +kernel
  rw [e]
  rfl
theorem ndk : (["k", "script", "state", "most"] : List Str).Nodup := by decide +kernel
theorem ok_case (T : LawT mg) (hsu : mg "sum" = none) (FT : Fn P w K mg base "_law_take" 1 ["state", "many"] spTk) (FA : Fn P w K mg base "_law_cell_at" 1 ["script", "k"] (spAt K)) (FR : Fn P w K mg base "_law_rows" 3 ["script", "mixed", "wide", "deep"] (spRows K)) (FC : Fn P w K mg base "_law_cutter" 2 ["state", "most"] spCutter)
    (F : Fun K "_law_case" "_law_case" sCase f fd') : FnOk P w K mg base (CX1 P w) 4 f fd' ["script"] (spCase K) := by
  have nd := scCase.nd
  refine F.ok1 scCase (fun vs H Q E h => ?_) (fun cdv A outer s H vs Q E hr h => ?_)
  · obtain ⟨L, ns, rfl, _⟩ := h
    rfl
  obtain ⟨L, ns, rfl, hL, q⟩ := h
  have hr1 : Room 1 _ := hr.mono (by decide)
  have hr2 : Room 2 _ := hr.mono (by decide)
  have hr3 : Room 3 _ := hr.mono (by decide)
  refine ⟨_, (pss_cons (ps_set (i := 1) nd rfl (Or.inr rfl) (pe_lst (pa_cons (pf_call FA hr1 rfl (pass1 (E := E)) (pa_cons (pv 0) (pa_cons pe_int pa_nil))) (pa_cons (pe_op op_mod (pe_callB (call_sumW rfl) rfl hsu bt_sum (pa_cons (pv 0) pa_nil)) pe_int) pa_nil))))
    (pss_cons (ps_set (i := 2) nd rfl (Or.inl rfl) (pe_op op_add pe_int (pf_call FT hr1 rfl (pass1 (E := E)) (pa_cons (pv 1) (pa_cons pe_int pa_nil)))))
    (pss_cons (ps_set (i := 3) nd rfl (Or.inl rfl) (pe_op op_add pe_int (pf_call FT hr1 rfl (pass1 (E := E)) (pa_cons (pv 1) (pa_cons pe_int pa_nil)))))
    (pss_cons (ps_set (i := 4) nd rfl (Or.inl rfl) (pe_op op_add pe_int (pf_call FT hr1 rfl (pass1 (E := E)) (pa_cons (pv 1) (pa_cons pe_int pa_nil)))))
    (pss_cons (ps_set (i := 5) nd rfl (Or.inr rfl) (pe_ix ix_list (pe_lst (pa_cons pe_int (pa_cons pe_int pa_nil))) (pf_call FT hr1 rfl (pass1 (E := E)) (pa_cons (pv 1) (pa_cons pe_int pa_nil))) (fun _ _ => rfl)))
    (pss_mid (ps_if (pt_cmpR op_eq (pf_call FT hr1 rfl (pass1 (E := E)) (pa_cons (pv 1) (pa_cons pe_int pa_nil))) pe_int (nomark _)) (pss_cons (ps_set (i := 6) nd rfl (Or.inl rfl) (pe_lst (pa_cons (pe_op op_add pe_int (pf_call FT hr1 rfl (pass1 (E := E)) (pa_cons (pv 1) (pa_cons pe_int pa_nil)))) (pa_cons (pe_op op_add pe_int (pf_call FT hr1 rfl (pass1 (E := E)) (pa_cons (pv 1) (pa_cons pe_int pa_nil)))) pa_nil))))
    (pss_cons (ps_asg (pe_ix ix_list (pe_lst (pa_cons (pv 6) (pa_cons (pe_slice3 (pv 6) po_none po_none (po_some (pe_un un_neg pe_int))) pa_nil))) (pf_call FT hr1 rfl (pass1 (E := E)) (pa_cons (pv 1) (pa_cons pe_int pa_nil))) (fun _ _ => rfl)) (pg_lst rfl (pgs_cons (pg_name (i := 2) nd rfl (Or.inl rfl)) (pgs_cons (pg_name (i := 3) nd rfl (Or.inl rfl)) pgs_nil))))
    (pss_one (ps_set (i := 4) nd rfl (Or.inl rfl) (pe_op op_add pe_int (pe_op op_mod (pv 4) pe_int)))))) pss_nil)
    (pss_cons (ps_asg (pf_call FR hr3 rfl (pass1 (E := E)) (pa_cons (pv 0) (pa_cons (pe_ix ix_list (pv 1) pe_int (fun _ _ => rfl)) (pa_cons (pv 2) (pa_cons (pv 3) pa_nil))))) (pg_tup rfl (pgs_cons (pg_name (i := 7) nd rfl (Or.inl rfl)) (pgs_cons (pg_name (i := 8) nd rfl (Or.inl rfl)) pgs_nil))))
    (pss_cons (ps_setC (i := 9) (own := ["k"]) (capn := ["script", "state", "most"]) (capI := [0, 1, 5]) nd rfl (Or.inl rfl) rfl rfl (blkC (defScope sCase) rfl rfl (by decide +kernel) rfl (fun y hy => by rcases List.mem_cons.mp hy with rfl | hy; exact ⟨rfl, rfl⟩; rcases List.mem_cons.mp hy with rfl | hy; exact ⟨rfl, rfl⟩; rcases List.mem_cons.mp hy with rfl | hy; exact ⟨rfl, rfl⟩; cases hy)) (pi_range1 rfl T.range (pa_cons (pv 4) pa_nil)) (fun _ _ _ _ _ _ => pg_name (i := 0) ndk rfl (Or.inl rfl)) (fun _ _ _ _ _ _ => pifs_nil) (fun _ _ _ _ _ _ => (pf_call FC hr2 rfl passN (pa_cons (pe_lst (pa_cons (pe_op op_add (pf_call FA hr1 rfl passN (pa_cons (pv 1) (pa_cons (pe_op op_add pe_int (pv 0)) pa_nil))) (pe_op op_mul (pv 0) (pe_ix (ix_listK (K := K) rfl) (pv 2) pe_int (fun _ _ => rfl)))) (pa_cons (pe_ix (ix_listK (K := K) rfl) (pv 2) pe_int (fun _ _ => rfl)) pa_nil))) (pa_cons (pv 3) pa_nil)))))
    (pss_one (ps_ret (pe_tup (pa_cons (pv 7) (pa_cons (pv 8) (pa_cons (pv 9) (pa_cons (pf_call FT hr1 rfl (pass1 (E := E)) (pa_cons (pv 1) (pa_cons pe_int pa_nil))) pa_nil))))))))))))))), ?_⟩
  refine ⟨_, rfl, L, ns, 0, rfl, hL, (by decide), fun z => ⟨_, rfl, L, ns, rfl, hL, fun sm => ⟨_, _, rfl, rfl, (by show (0 : Int) < 2; decide), le2, fun st hst => ?_⟩⟩⟩
  obtain ⟨b, hb, b0, b1⟩ : ∃ b : Int, b = sm % 2 ∧ 0 ≤ b ∧ b ≤ 1 := ⟨sm % 2, rfl, by omega, by omega⟩
  have hb' : (fun i j : Int => V.int (i % j)) sm 2 = V.int b := by rw [hb]
  rw [hb']
  have u1 := same_upd hst (.lst [V.int z, .int b])
  have es1 : upd H st (.lst [V.int z, .int b]) st = some (.lst [V.int z, .int b]) := upd_same
  generalize upd H st (.lst [V.int z, .int b]) = H1 at u1 es1
  have tk : ∀ {G : Hp} {c : Int}, Same H G → upd G st (.lst [V.int c, .int b]) st = some (.lst [V.int c, .int b]) ∧ Same H (upd G st (.lst [V.int c, .int b])) := fun s => ⟨upd_same, same_in s hst⟩
  refine ⟨_, rfl, st, z, b, 6, rfl, es1, (by decide), (by decide), fun z1 c1 p1 q1 => ⟨_, _, rfl, rfl, ?_⟩⟩
  obtain ⟨es2, u2⟩ := tk (c := c1) u1
  generalize upd H1 st (.lst [V.int c1, .int b]) = H2 at es2 u2
  refine ⟨_, rfl, st, c1, b, 6, rfl, es2, (by decide), (by decide), fun z2 c2 p2 q2 => ⟨_, _, rfl, rfl, ?_⟩⟩
  obtain ⟨es3, u3⟩ := tk (c := c2) u2
  generalize upd H2 st (.lst [V.int c2, .int b]) = H3 at es3 u3
  refine ⟨_, rfl, st, c2, b, 4, rfl, es3, (by decide), (by decide), fun z3 c3 p3 q3 => ⟨_, _, rfl, rfl, ?_⟩⟩
  obtain ⟨es4, u4⟩ := tk (c := c3) u3
  generalize upd H3 st (.lst [V.int c3, .int b]) = H4 at es4 u4
  refine ⟨le2, fun l1 hl1 => ?_⟩
  have v1 := same_upd hl1 (.lst [V.int 6, .int 25])
  have n1 := ne_new es4 hl1
  refine ⟨_, rfl, st, c3, b, 2, rfl, v1 _ _ es4, (by decide), (by decide), fun z4 c4 p4 q4 => ?_⟩
  have e1 : upd (upd H4 l1 (.lst [V.int 6, .int 25])) st (.lst [V.int c4, .int b]) l1 = some (.lst [V.int 6, .int 25]) := by rw [upd_ne n1, upd_same]
  obtain ⟨mo, hmo, mo0, mo25⟩ : ∃ mo : Int, atI [V.int 6, V.int 25] z4 = some (.int mo) ∧ 0 < mo ∧ mo ≤ 25 := by
    have : z4 = 0 ∨ z4 = 1 := by omega
    rcases this with rfl | rfl
    · exact ⟨6, rfl, by decide, by decide⟩
    · exact ⟨25, rfl, by decide, by decide⟩
  refine ⟨l1, _, z4, .int mo, rfl, rfl, SqL.of e1, hmo, ?_⟩
  obtain ⟨es5, u5⟩ := tk (c := c4) (u4.trans v1)
  generalize upd (upd H4 l1 (.lst [V.int 6, .int 25])) st (.lst [V.int c4, .int b]) = H5 at es5 u5
  clear e1 n1 v1 hl1 es1 es2 es3 es4 u1 u2 u3 u4
  obtain ⟨wd, hwd, wd1, wd6⟩ : ∃ wd : Nat, (1 + z1) = (wd : Int) ∧ 1 ≤ wd ∧ wd ≤ 40 := ⟨(1 + z1).toNat, by omega, by omega, by omega⟩
  obtain ⟨dp, hdp, dp1, dp6⟩ : ∃ dp : Nat, (1 + z2) = (dp : Int) ∧ 1 ≤ dp ∧ dp ≤ 40 := ⟨(1 + z2).toNat, by omega, by omega, by omega⟩
  obtain ⟨ct, hct, ct1, ct6⟩ : ∃ ct : Nat, (1 + z3) = (ct : Int) ∧ 1 ≤ ct ∧ ct ≤ 6 := ⟨(1 + z3).toNat, by omega, by omega, by omega⟩
  refine ⟨fun σ G => ∃ (wd dp ct : Nat) (c : Int) (g6 : Option V), σ = [some (.ref L), some (.ref st), some (.int (wd : Int)), some (.int (dp : Int)), some (.int (ct : Int)), some (.int mo), g6, none, none, none] ∧ 1 ≤ wd ∧ wd ≤ 40 ∧ 1 ≤ dp ∧ dp ≤ 40 ∧ ct ≤ 6 ∧ G st = some (.lst [.int c, .int b]) ∧ Same H G, ?_, ?_⟩
  · refine ⟨_, rfl, st, c4, b, 8, rfl, es5, (by decide), (by decide), fun z5 c5 _ _ => ⟨rfl, _, rfl, ?_⟩⟩
    obtain ⟨es6, u6⟩ := tk (c := c5) u5
    generalize upd H5 st (.lst [V.int c5, .int b]) = G at es6 u6
    refine ite2 (fun _ => ?_) (fun _ => ⟨wd, dp, ct, c5, none, by rw [← hwd, ← hdp, ← hct]; rfl, wd1, wd6, dp1, dp6, ct6, es6, u6⟩)
    refine ⟨_, rfl, st, c5, b, 34, rfl, es6, (by decide), (by decide), fun y1 c6 p5 q5 => ⟨_, _, rfl, rfl, ?_⟩⟩
    obtain ⟨es7, u7⟩ := tk (c := c6) u6
    generalize upd G st (.lst [V.int c6, .int b]) = G1 at es7 u7
    refine ⟨_, rfl, st, c6, b, 3, rfl, es7, (by decide), (by decide), fun y2 c7 p6 q6 => ⟨_, _, rfl, rfl, le2, fun sz hsz => ?_⟩⟩
    obtain ⟨es8, u8⟩ := tk (c := c7) u7
    generalize upd G1 st (.lst [V.int c7, .int b]) = G2 at es8 u8 hsz
    have nsz := ne_new es8 hsz
    have v1 := same_upd hsz (.lst [V.int (7 + y1), .int (1 + y2)])
    refine ⟨_, rfl, _, rfl, 1, rfl, _, rfl, sz, _, rfl, SqL.of upd_same, (by decide), fun _ p3 hp3 => ⟨le2, fun l3 hl3 => ?_⟩⟩
    have v2 := same_upd hp3 (.lst (pickV [V.int (7 + y1), .int (1 + y2)] none none (some (-1))))
    have v3 := same_upd hl3 (.lst [V.ref sz, .ref p3])
    have v13 := v1.trans (v2.trans v3)
    have n3 := ne_new ((v1.trans v2) _ _ es8) hl3
    have n2 := ne_new (v1 _ _ es8) hp3
    refine ⟨_, rfl, st, c7, b, 2, rfl, v13 _ _ es8, (by decide), (by decide), fun y3 c8 p7 q7 => ?_⟩
    obtain ⟨es9, u9⟩ := tk (c := c8) (u8.trans v13)
    have a0 : upd (upd (upd (upd G2 sz (.lst [V.int (7 + y1), .int (1 + y2)])) p3 (.lst (pickV [V.int (7 + y1), .int (1 + y2)] none none (some (-1))))) l3 (.lst [V.ref sz, .ref p3])) st (.lst [V.int c8, .int b]) sz = some (.lst [V.int (7 + y1), .int (1 + y2)]) := by rw [upd_ne nsz]; exact v3 _ _ (v2 _ _ upd_same)
    have a1 : upd (upd (upd (upd G2 sz (.lst [V.int (7 + y1), .int (1 + y2)])) p3 (.lst (pickV [V.int (7 + y1), .int (1 + y2)] none none (some (-1))))) l3 (.lst [V.ref sz, .ref p3])) st (.lst [V.int c8, .int b]) p3 = some (.lst [V.int (1 + y2), .int (7 + y1)]) := by rw [upd_ne n2]; exact v3 _ _ (by rw [upd_same]; exact congrArg (fun z => some (HO.lst z)) (pick_rev _ _))
    have a2 : upd (upd (upd (upd G2 sz (.lst [V.int (7 + y1), .int (1 + y2)])) p3 (.lst (pickV [V.int (7 + y1), .int (1 + y2)] none none (some (-1))))) l3 (.lst [V.ref sz, .ref p3])) st (.lst [V.int c8, .int b]) l3 = some (.lst [V.ref sz, .ref p3]) := by rw [upd_ne n3, upd_same]
    generalize upd (upd (upd (upd G2 sz (.lst [V.int (7 + y1), .int (1 + y2)])) p3 (.lst (pickV [V.int (7 + y1), .int (1 + y2)] none none (some (-1))))) l3 (.lst [V.ref sz, .ref p3])) st (.lst [V.int c8, .int b]) = G3 at es9 u9 a0 a1 a2
    obtain ⟨w2, hw2, w21, w26⟩ : ∃ w2 : Nat, (7 + y1) = (w2 : Int) ∧ 1 ≤ w2 ∧ w2 ≤ 40 := ⟨(7 + y1).toNat, by omega, by omega, by omega⟩
    obtain ⟨e2, he2, e21, e26⟩ : ∃ e2 : Nat, (1 + y2) = (e2 : Int) ∧ 1 ≤ e2 ∧ e2 ≤ 40 := ⟨(1 + y2).toNat, by omega, by omega, by omega⟩
    obtain ⟨k2, hk2, k26⟩ : ∃ k2 : Nat, (1 + (1 + z3) % 2) = (k2 : Int) ∧ k2 ≤ 6 := ⟨(1 + (1 + z3) % 2).toNat, by omega, by omega⟩
    have : y3 = 0 ∨ y3 = 1 := by omega
    rcases this with rfl | rfl
    · refine ⟨l3, _, 0, .ref sz, rfl, rfl, SqL.of a2, rfl, sz, _, rfl, SqL.of a0, rfl, _, _, rfl, _, _, rfl, rfl, ?_⟩
      exact ⟨_, rfl, _, _, rfl, rfl, (by show (0 : Int) < 2; decide), _, _, rfl, rfl, w2, e2, k2, c8, _, by rw [← hw2, ← he2, ← hk2]; rfl, w21, w26, e21, e26, k26, es9, u9⟩
    · refine ⟨l3, _, 1, .ref p3, rfl, rfl, SqL.of a2, rfl, p3, _, rfl, SqL.of a1, rfl, _, _, rfl, _, _, rfl, rfl, ?_⟩
      exact ⟨_, rfl, _, _, rfl, rfl, (by show (0 : Int) < 2; decide), _, _, rfl, rfl, e2, w2, k2, c8, _, by rw [← hw2, ← he2, ← hk2]; rfl, e21, e26, w21, w26, k26, es9, u9⟩
  clear es5 u5 hwd hdp hct ct1 ct6 ct
  rintro _ G ⟨wd, dp, ct, c6, g6, rfl, wd1, wd6, dp1, dp6, ct6, es7, u7⟩
  refine ⟨_, rfl, _, rfl, st, _, 1, .int b, rfl, rfl, SqL.of es7, rfl, _, rfl, _, rfl, L, ns, b, wd, dp, rfl, u7.seq hL, b0, b1, wd1, wd6, dp1, dp6, fun t bd wh rs ws bed wished H6 s6 ht nbd nwh nrs nws hbd rbd hwh rwh rect al small _ _ _ => ?_⟩
  refine ⟨t, _, rfl, SqT.of ht, rfl, _, _, rfl, _, _, rfl, rfl, ?_⟩
  have es8 := s6 _ _ es7
  have oB : OfB H6 st bd bed := ⟨rs, hbd, rbd, ne_new es7 nbd, fun z => (by have := nrs st z; rw [es7] at this; cases this)⟩
  have oW : OfB H6 st wh wished := ⟨ws, hwh, rwh, ne_new es7 nwh, fun z => (by have := nws st z; rw [es7] at this; cases this)⟩
  have u8 := u7.trans s6
  refine ⟨_, rfl, _, rfl, (by omega), (by omega), fun D hD => ?_⟩
  rw [Int.toNat_natCast]
  refine ⟨Wd ct (fun i σ2 acc H7 => ∃ (z : Option V) (cts : List Addr) (tools : List Tool), σ2 = [z, some (.ref L), some (.ref st), some (.int mo)] ∧ acc = cts.map V.ref ∧ CtsO H7 D cts tools ∧ CtsO H7 st cts tools ∧ tools.length = i ∧ (∀ t ∈ tools, t.1.length ≤ 26 ∧ t.1.Nodup ∧ ∀ s ∈ t.1, Nr s) ∧ Same H6 H7 ∧ H7 D = some (.lst acc)), wd_0 ⟨none, [], [], rfl, rfl, True.intro, True.intro, rfl, fun _ h => (List.not_mem_nil h).elim, same_upd hD _, upd_same⟩, ?_⟩
  rintro i im σ2 acc H7 ⟨rfl, hi0, z', cts, tools, rfl, rfl, co, cos, tl, t100, s7, hD7⟩
  have ctl := co.cts.len
  refine rg_ask hi0 (fun hi => ?_) (fun hend => ?_)
  · have es9 := s7 _ _ es8
    refine ⟨_, rfl, _, rfl, _, _, rfl, rfl, L, ns, _, rfl, (u8.trans s7).seq hL, (by omega), fun zz => ⟨_, rfl, _, rfl, st, _, 1, .int b, rfl, rfl, SqL.of es9, rfl, _, _, rfl, rfl, .inl ⟨by omega, by omega⟩, _, _, rfl, rfl, _, rfl, st, _, 1, .int b, rfl, rfl, SqL.of es9, rfl, le2, fun s2 hs2 => ?_⟩⟩
    have v2 := same_upd hs2 (.lst [V.int (zz + (0 + (i : Int)) * b), .int b])
    have nsD := ne_new hD7 hs2
    refine ⟨_, rfl, s2, _, b, mo, rfl, mo0, mo25, upd_same, fun cta ft foot bite c' H8 w8 hf0 _ _ hcta hfta _ fl fnd fnr => ?_⟩
    have k8 : Same H7 H8 := fun x o e => w8 x o (ne_of_none e hs2) (v2 x o e)
    have hD8 := k8 _ _ hD7
    have nft : ft ≠ D := fun z => by
      rw [z, v2 _ _ hD7] at hf0
      cases hf0
    have nfs : ft ≠ st := fun z => by
      rw [z, v2 _ _ es9] at hf0
      cases hf0
    have nca : cta ≠ D := fun z => by rw [z, hD8] at hcta; cases hcta
    refine ⟨hD8, (by rw [List.length_map]; exact line3 (show cts.length ≤ 1000 by omega) (by decide)), wd_next hi ⟨_, cts ++ [cta], tools ++ [(foot, bite)], rfl, by rw [List.map_append]; rfl, ?_, ?_, by rw [List.length_append, tl]; rfl, fun x hx => ?_, same_in (s7.trans k8) hD, upd_same⟩⟩
    · have co8 := CtsO.snoc (c := cta) (t := (foot, bite)) ⟨ft, nft, hcta, hfta⟩ (co.keep (fun x o _ e => k8 x o e) ⟨_, hD7⟩)
      exact co8.keep (fun x o n e => by rw [upd_ne n]; exact e) ⟨_, hD8⟩
    · have co8 := CtsO.snoc (c := cta) (t := (foot, bite)) ⟨ft, nft, hcta, hfta⟩ (co.keep (fun x o _ e => k8 x o e) ⟨_, hD7⟩)
      have cs8 := CtsO.snoc (c := cta) (t := (foot, bite)) ⟨ft, nfs, hcta, hfta⟩ (cos.keep (fun x o _ e => k8 x o e) ⟨_, es9⟩)
      exact CtsO.keepD cs8 co8 (fun x o n e => by rw [upd_ne n]; exact e) ⟨_, hD8⟩
    · rcases List.mem_append.mp hx with hx | hx
      · exact t100 x hx
      · rw [show x = (foot, bite) by simpa using hx]; exact ⟨fl, fnd, fnr⟩
  · have es9 := s7 _ _ es8
    refine ⟨_, rfl, _, rfl, _, rfl, _, rfl, st, _, b, 36, rfl, es9, (by decide), (by decide), fun tn cN tn0 _ => ⟨(by show 4 ≤ sizeLine; decide), fun t2 ht2 => ?_⟩⟩
    have kst : Sb st H7 (upd H7 st (.lst [V.int cN, .int b])) := sb_upd
    have v := same_upd ht2 (.tup [V.ref bd, .ref wh, .ref D, .int tn])
    have nDs : D ≠ st := ne_new es8 hD
    have oS : OfS H7 st D tools := ⟨cts, hD7, cos, nDs⟩
    exact q t2 bd wh D tn bed wished tools _ (same_in (u8.trans s7) hst |>.trans v) upd_same (((oB.same s7).keep kst).same v).bd (((oW.same s7).keep kst).same v).bd ((oS.keep es9 kst).sh.same v) rect al small t100 (by omega) tn0
end
end Car

set_option maxHeartbeats 2000000
namespace Car
open PySem L2
/-- the other way -/
noncomputable def shb (x y : Int) (c : Int × Int) : Int × Int := (x - c.1, y - c.2)
/-- the places of the bed at which the foot is over a cell -/
noncomputable def ovs (rows : List (List Int)) (foot : List (Int × Int)) (x y : Int) : List (Int × Int) := (foot.map (shb x y)).filter (ins rows)
theorem mv_paired {K : PySem.W.Frag} {H : Hp} : ∀ {ts : List Addr} {cs : List (Int × Int)}, MvAt H ts (cs.map pr) → Paired (fun t (c : Int × Int) => SqT K H t [.int c.1, .int c.2]) ts cs
  | [], [], _ => .nil
  | _ :: _, _ :: _, h => .cons (SqT.of h.1) (mv_paired h.2)
  | [], _ :: _, h => h.elim
  | _ :: _, [], h => h.elim
theorem mv_pairedH {H : Hp} : ∀ {ts : List Addr} {cs : List (Int × Int)}, MvAt H ts (cs.map pr) → Paired (fun t (c : Int × Int) => H t = some (.tup (pr c))) ts cs
  | [], [], _ => .nil
  | _ :: _, _ :: _, h => .cons h.1 (mv_pairedH h.2)
  | [], _ :: _, h => h.elim
  | _ :: _, [], h => h.elim
theorem paired_mv {H : Hp} : ∀ {ts : List Addr} {cs : List (Int × Int)}, Paired (fun t (c : Int × Int) => H t = some (.tup (pr c))) ts cs → MvAt H ts (cs.map pr)
  | _, _, .nil => True.intro
  | _, _, .cons h r => ⟨h, paired_mv r⟩
theorem bt_sorted : bootBuiltins "sorted" = some (.builtin "sorted") := by decide +kernel
/-- sorted places -/
noncomputable def SrtOf (cs : List (Int × Int)) (ds : List (Int × Int)) : Prop := ds.Perm cs ∧ ds.Pairwise fun a b => rkP a ≤ rkP b
section
variable {P : Program} {w : World} {K : PySem.W.Frag} {mg : Str → Option Value} {base : Heap} {f : Addr} {fd' : FuncData}
/-! ### places_over -/
noncomputable def spPlaces : Sp := fun vs H Q _ => ∃ (b ct ft : Addr) (tv : V) (x y : Int) (rows : List (List Int)) (foot : List (Int × Int)), vs = [.ref b, .ref ct, .int x, .int y] ∧ BdAt H b rows ∧ rows ≠ [] ∧ rows.length ≤ 40 ∧ H ct = some (.tup [.ref ft, tv]) ∧ FtAt H ft foot ∧ foot.length < 64 ∧
  ∀ D H' ds, H D = none → Same H H' → FtAt H' D ds → SrtOf (ovs rows foot x y) ds → Q (.ref D) H'
theorem scPlaces : FnScope ["bed", "cutter", "x", "y"] ["bed", "cutter", "x", "y"] (defScope sPlaces) := ⟨rfl, rfl, rfl, by decide +kernel, rfl, by decide +kernel, by decide +kernel⟩
theorem ok_places (hso : mg "sorted" = none) (FW : Fn P w K mg base "within" 1 ["bed", "cells"] spWithin) (F : Fun K "places_over" "places_over" sPlaces f fd') : FnOk P w K mg base (CX1 P w) 2 f fd' ["bed", "cutter", "x", "y"] spPlaces := by
  have nd := scPlaces.nd
  refine F.ok1 scPlaces (fun vs H Q E h => ?_) (fun cdv A outer s H vs Q E hr h => ?_)
  · obtain ⟨b, ct, ft, tv, x, y, rows, foot, rfl, _⟩ := h
    rfl
  obtain ⟨b, ct, ft, tv, x, y, rows, foot, rfl, hb, hne, h40, hct, ⟨ts, hft, mvf⟩, hl, q⟩ := h
  have hr1 : Room 1 _ := hr.mono (by decide)
  have tl : ts.length = foot.length := by rw [mvf.len, List.length_map]
  refine ⟨_, (pss_one (ps_ret (pe_callB call_sortP rfl hso bt_sorted (pa_cons (pf_call FW hr1 rfl (pass1 (E := E)) (pa_cons (pv 0) (pa_cons (pe_lc (own := ["step"]) (capn := ["x", "y"]) (capI := [2, 3]) rfl (blkC (defScope sPlaces) rfl rfl (by decide +kernel) rfl (fun y hy => by rcases List.mem_cons.mp hy with rfl | hy; exact ⟨rfl, rfl⟩; rcases List.mem_cons.mp hy with rfl | hy; exact ⟨rfl, rfl⟩; cases hy)) (pi_list (pe_ix ix_tup (pv 1) pe_int (fun _ _ => rfl))) (fun _ _ _ _ _ _ => pg_name (i := 0) nd3 rfl (Or.inl rfl)) (fun _ _ _ _ _ _ => pifs_nil) (fun _ _ _ _ _ _ => (pe_tup (pa_cons (pe_op op_sub (pv 1) (pe_ix (ix_tupK (K := K) rfl) (pv 0) pe_int (fun _ _ => rfl))) (pa_cons (pe_op op_sub (pv 2) (pe_ix (ix_tupK (K := K) rfl) (pv 0) pe_int (fun _ _ => rfl))) pa_nil))))) pa_nil))) pa_nil)))), ?_⟩
  refine ⟨_, rfl, _, rfl, ct, _, 0, .ref ft, rfl, rfl, SqT.of hct, rfl, ft, rfl, ⟨_, SqL.of hft⟩, fun D hD => ?_⟩
  obtain ⟨g, hg⟩ : ∃ g : V → Int × Int, ∀ t c, MvAt H [t] [pr c] → g (.ref t) = c := by
    refine ⟨fun v => match v with | .ref t => (match H t with | some (.tup [.int a, .int b]) => (a, b) | _ => (0, 0)) | _ => (0, 0), fun t c h => ?_⟩
    have e : H t = some (.tup [.int c.1, .int c.2]) := h.1
    simp only [e]
  have gall : ∀ (us : List Addr) (cs : List (Int × Int)), MvAt H us (cs.map pr) → (us.map V.ref).map (fun v => pr (shb x y (g v))) = (cs.map (shb x y)).map pr := by
    intro us
    induction us with
    | nil =>
      intro cs h
      cases cs with
      | nil => rfl
      | cons c cs => exact h.elim
    | cons u us ih =>
      intro cs h
      cases cs with
      | nil => exact h.elim
      | cons c cs =>
        rw [List.map_cons, List.map_cons, List.map_cons, List.map_cons, ih cs h.2, hg u c ⟨h.1, True.intro⟩]
  refine lc_tupC (K := K) (xs := ts.map V.ref) (F := fun v => pr (shb x y (g v))) [some (.int x), some (.int y)] (SqL.of hft) (by rw [List.length_map]; omega) (fun v hv H2 R s2 r => ?_) hD (fun us H2 s2 hD2 mv2 => ?_)
  · obtain ⟨t, ht, rfl⟩ := List.mem_map.mp hv
    obtain ⟨i, hi⟩ := List.getElem?_of_mem ht
    have hif : i < foot.length := by have := (List.getElem?_eq_some_iff.mp hi).1; omega
    have e1 := mvf.at_ hi (by rw [List.getElem?_map, List.getElem?_eq_getElem hif]; rfl)
    have e2 := s2 _ _ e1
    have e3 := hg t _ ⟨e1, True.intro⟩
    generalize foot[i] = c1 at e1 e2 e3
    rw [e3] at r
    exact ⟨_, rfl, _, rfl, t, _, 0, .int c1.1, rfl, rfl, SqT.of e2, rfl, _, _, rfl, rfl, _, rfl, _, rfl, t, _, 1, .int c1.2, rfl, rfl, SqT.of e2, rfl, _, _, rfl, rfl, le2, r⟩
  · rw [gall ts foot mvf] at mv2
    refine ⟨b, D, rows, foot.map (shb x y), rfl, hb.same s2, hne, ⟨us, hD2, mv2⟩, by rw [List.length_map]; omega, fun D2 H3 n3 s3 h3 => ?_⟩
    obtain ⟨ts3, h31, h32⟩ := h3
    have l3 : ts3.length = (ovs rows foot x y).length := by rw [h32.len, List.length_map]; rfl
    have lo : (ovs rows foot x y).length ≤ foot.length := by
      unfold ovs
      exact Nat.le_trans (List.length_filter_le _ _) (by rw [List.length_map]; exact Nat.le_refl _)
    refine ⟨D2, ts3, ovs rows foot x y, rfl, SqL.of h31, mv_paired h32, by omega, fun c hc => ?_, fun D4 us4 ds n4 perm pw ul rel => ?_⟩
    · have hi := (List.mem_filter.mp hc).2
      unfold ins at hi
      have := of_decide_eq_true hi
      unfold inP
      omega
    · have u4 := same_upd n4 (.lst (us4.map V.ref))
      refine q D4 _ ds ((s2.trans s3).free n4) ((s2.trans s3).trans u4) ⟨us4, upd_same, (paired_mv (rel _ (mv_pairedH h32))).same u4⟩ ⟨perm, pw⟩
/-! ### lowest_at -/
noncomputable def spLowest : Sp := fun vs H Q _ => ∃ (b ct ft : Addr) (tv : V) (x y : Int) (rows : List (List Int)) (foot : List (Int × Int)), vs = [.ref b, .ref ct, .int x, .int y] ∧ BdAt H b rows ∧ Rect rows ∧ H ct = some (.tup [.ref ft, tv]) ∧ FtAt H ft foot ∧ foot.length ≤ 1000 ∧ ∀ H', Same H H' → Q (.int (lowAt rows foot x y)) H'
theorem scLowest : FnScope ["wished", "cutter", "x", "y"] ["wished", "cutter", "x", "y"] (defScope sLowest) := ⟨rfl, rfl, rfl, by decide +kernel, rfl, by decide +kernel, by decide +kernel⟩
theorem ok_lowest (FU : Fn P w K mg base "cells_under" 2 ["bed", "cutter", "x", "y"] spUnder) (FG : Fn P w K mg base "greatest" 1 ["bed", "cells"] spGreat) (F : Fun K "lowest_at" "lowest_at" sLowest f fd') : FnOk P w K mg base (CX1 P w) 3 f fd' ["wished", "cutter", "x", "y"] spLowest := by
  have nd := scLowest.nd
  refine F.ok1 scLowest (fun vs H Q E h => ?_) (fun cdv A outer s H vs Q E hr h => ?_)
  · obtain ⟨b, ct, ft, tv, x, y, rows, foot, rfl, _⟩ := h
    rfl
  obtain ⟨b, ct, ft, tv, x, y, rows, foot, rfl, hb, rect, hct, hft, hl, q⟩ := h
  have hr1 : Room 1 _ := hr.mono (by decide)
  have hr2 : Room 2 _ := hr.mono (by decide)
  refine ⟨_, (pss_one (ps_ret (pf_call FG hr1 rfl (pass1 (E := E)) (pa_cons (pv 0) (pa_cons (pf_call FU hr2 rfl (pass1 (E := E)) (pa_cons (pv 0) (pa_cons (pv 1) (pa_cons (pv 2) (pa_cons (pv 3) pa_nil))))) pa_nil))))), ?_⟩
  refine ⟨_, rfl, _, rfl, _, rfl, _, rfl, _, rfl, b, ct, ft, tv, x, y, rows, foot, rfl, hb, rect.1, hct, hft, hl, fun D H1 _ s1 hD => ?_⟩
  exact ⟨b, D, rows, und rows foot x y, rfl, hb.same s1, rect, hD, Nat.le_trans (List.length_filter_le _ _) (by rw [List.length_map]; exact hl), fun c hc => (List.mem_filter.mp hc).2, fun H2 s2 => q H2 (s1.trans s2)⟩
end
end Car

set_option maxHeartbeats 2000000
namespace Car
open PySem L2
theorem und_alike {a b : List (List Int)} (h : Alike a b) (foot : List (Int × Int)) (x y : Int) : und a foot x y = und b foot x y := by
  unfold und
  exact List.filter_congr fun c _ => h.ins c
theorem shb_shf {x y : Int} {s p : Int × Int} : p = shb x y s ↔ (x, y) = shf p.1 p.2 s := by
  rcases p with ⟨p1, p2⟩
  rcases s with ⟨s1, s2⟩
  unfold shb shf
  simp only [Prod.mk.injEq]
  omega
theorem mem_ovs {rows : List (List Int)} {foot : List (Int × Int)} {x y : Int} {p : Int × Int} : p ∈ ovs rows foot x y ↔ ins rows p = true ∧ ∃ s ∈ foot, (x, y) = shf p.1 p.2 s := by
  unfold ovs
  rw [List.mem_filter, List.mem_map]
  constructor
  · rintro ⟨⟨s, hs, e⟩, h⟩
    exact ⟨h, s, hs, shb_shf.mp e.symm⟩
  · rintro ⟨h, s, hs, e⟩
    exact ⟨⟨s, hs, (shb_shf.mpr e).symm⟩, h⟩
/-- what is had, by the places over -/
theorem had_over {bed wished : List (List Int)} (R : Rect bed) (A : Alike bed wished) {ts : List Tool} {x y n : Int} (hin : ins bed (x, y) = true) (h : ∀ z, z ≤ n ↔ z ≤ hgt bed (x, y) ∧ ∀ t ∈ ts, ∀ p ∈ ovs bed t.1 x y, z ≤ lowAt wished t.1 p.1 p.2) : n = hgt (hadF bed wished ts) (x, y) := by
  refine eq_of_le fun z => ?_
  rw [h z, le_had R hin]
  constructor
  · rintro ⟨a, k⟩
    refine ⟨a, fun t ht s hs p hp e => ?_⟩
    have := k t ht p (mem_ovs.mpr ⟨hp, s, hs, e⟩)
    unfold lowAt at this
    rw [← und_alike A] at this
    exact this
  · rintro ⟨a, k⟩
    refine ⟨a, fun t ht p hp => ?_⟩
    obtain ⟨h1, s, hs, e⟩ := mem_ovs.mp hp
    unfold lowAt
    rw [← und_alike A]
    exact k t ht s hs p h1 e
theorem take_snoc {α : Type} {xs : List α} {i : Nat} {x : α} (h : xs[i]? = some x) : xs.take (i + 1) = xs.take i ++ [x] := by
  rw [List.take_add_one, h]
  rfl
section
variable {P : Program} {w : World} {K : PySem.W.Frag} {mg : Str → Option Value} {base : Heap} {f : Addr} {fd' : FuncData}
noncomputable def spOver : Sp := fun vs H Q _ => ∃ (b wh sh : Addr) (x y : Int) (bed wished : List (List Int)) (ts : List Tool), vs = [.ref b, .ref wh, .ref sh, .int x, .int y] ∧ BdAt H b bed ∧ BdAt H wh wished ∧ ShAt H sh ts ∧ Rect bed ∧ Alike bed wished ∧ Small bed ∧ (∀ t ∈ ts, t.1.length < 64) ∧ ins bed (x, y) = true ∧ ∀ H', Same H H' → Q (.int (hgt (hadF bed wished ts) (x, y))) H'
theorem scOver : FnScope ["bed", "wished", "shelf", "x", "y", "told", "cutter", "place"] ["bed", "wished", "shelf", "x", "y"] (defScope sLowOver) := ⟨rfl, rfl, rfl, by decide +kernel, rfl, by decide +kernel, by decide +kernel⟩
theorem ok_over (T : LawT mg) (FP : Fn P w K mg base "places_over" 2 ["bed", "cutter", "x", "y"] spPlaces) (FL : Fn P w K mg base "lowest_at" 3 ["wished", "cutter", "x", "y"] spLowest) (F : Fun K "lowest_over" "lowest_over" sLowOver f fd') : FnOk P w K mg base (CX1 P w) 4 f fd' ["bed", "wished", "shelf", "x", "y"] spOver := by
  have nd := scOver.nd
  refine F.ok1 scOver (fun vs H Q E h => ?_) (fun cdv A outer s H vs Q E hr h => ?_)
  · obtain ⟨b, wh, sh, x, y, bed, wished, ts, rfl, _⟩ := h
    rfl
  obtain ⟨b, wh, sh, x, y, bed, wished, ts, rfl, hb, hw, hs, rect, al, small, feet, hin, q⟩ := h
  have hr2 : Room 2 _ := hr.mono (by decide)
  have hr3 : Room 3 _ := hr.mono (by decide)
  refine ⟨_, (pss_cons (ps_set (i := 5) nd rfl (Or.inl rfl) (pe_ix ix_list (pe_ix ix_list (pv 0) (pv 4) (fun _ _ => rfl)) (pv 3) (fun _ _ => rfl)))
    (pss_cons (ps_for own1 rfl (pi_list (pv 2)) (pg_name (i := 6) nd rfl (Or.inl rfl)) (pss_one (ps_for own1 rfl (pi_list (pf_call FP hr2 rfl (pass1 (E := E)) (pa_cons (pv 0) (pa_cons (pv 6) (pa_cons (pv 3) (pa_cons (pv 4) pa_nil)))))) (pg_name (i := 7) nd rfl (Or.inl rfl)) (pss_one (ps_set (i := 5) nd rfl (Or.inl rfl) (pe_callB (call_min2 rfl) rfl T.min bt_min (pa_cons (pv 5) (pa_cons (pf_call FL hr3 rfl (pass1 (E := E)) (pa_cons (pv 1) (pa_cons (pv 6) (pa_cons (pe_ix ix_tup (pv 7) pe_int (fun _ _ => rfl)) (pa_cons (pe_ix ix_tup (pv 7) pe_int (fun _ _ => rfl)) pa_nil))))) pa_nil))))))))
    (pss_one (ps_ret (pv 5))))), ?_⟩
  obtain ⟨i, j, row, v, exy, hrow, hv, hh⟩ := ins_at hin rect
  obtain ⟨rfl, rfl⟩ : x = (j : Int) ∧ y = (i : Int) := by cases exy; exact ⟨rfl, rfl⟩
  obtain ⟨rs, hb1, ra⟩ := id hb
  obtain ⟨r, hr', hrl⟩ := ra.at_ hrow
  refine ⟨_, rfl, _, rfl, b, _, _, .ref r, rfl, rfl, SqL.of hb1, atI_nat (by rw [List.getElem?_map, hr']; rfl), _, rfl, r, _, _, .int v, rfl, rfl, SqL.of hrl, atI_nat (by rw [List.getElem?_map, hv]; rfl), ?_⟩
  obtain ⟨cs, hs1, cts⟩ := hs
  have cl := cts.len
  refine ⟨_, rfl, sh, rfl, ⟨_, SqL.of hs1⟩, ?_⟩
  refine for_list (K := K) (a := sh) (xs := cs.map V.ref) (fun k σ Hc => ∃ (n : Int) (g6 g7 : Option V), σ = [some (.ref b), some (.ref wh), some (.ref sh), some (.int (j : Int)), some (.int (i : Int)), some (.int n), g6, g7] ∧ (∀ z, z ≤ n ↔ z ≤ hgt bed ((j : Int), (i : Int)) ∧ ∀ t ∈ ts.take k, ∀ p ∈ ovs bed t.1 j i, z ≤ lowAt wished t.1 p.1 p.2) ∧ Same H Hc)
    ⟨v, none, none, rfl, fun z => by rw [hh, List.take_zero]; exact ⟨fun a => ⟨a, fun t ht => by cases ht⟩, fun a => a.1⟩, Same.refl _⟩ (fun k σ Hc _ ⟨_, _, _, _, _, s⟩ => SqL.of (s _ _ hs1)) ?_ ?_
  · rintro k x' σ Hc hx ⟨n, g6, g7, rfl, hn, s1⟩
    obtain ⟨c, hc, rfl⟩ := ref_get hx
    obtain ⟨t, ht, ct⟩ := (cts.same s1).at_ hc
    obtain ⟨ft, hct, hft⟩ := ct
    have htm : t ∈ ts := List.mem_of_getElem? ht
    refine ⟨_, rfl, _, rfl, _, rfl, _, rfl, b, c, ft, _, _, _, bed, t.1, rfl, hb.same s1, rect.1, small.1, hct, hft, feet t htm, fun D H2 ds nD s2 hD srt => ?_⟩
    obtain ⟨us, hD1, mvD⟩ := hD
    have ul : us.length = ds.length := by rw [mvD.len, List.length_map]
    refine ⟨D, rfl, ⟨_, SqL.of hD1⟩, ?_⟩
    refine for_list (K := K) (a := D) (xs := us.map V.ref) (fun l σ Hd => ∃ (m : Int) (g7 : Option V), σ = [some (.ref b), some (.ref wh), some (.ref sh), some (.int (j : Int)), some (.int (i : Int)), some (.int m), some (.ref c), g7] ∧ (∀ z, z ≤ m ↔ z ≤ n ∧ ∀ p ∈ ds.take l, z ≤ lowAt wished t.1 p.1 p.2) ∧ Same H2 Hd)
      ⟨n, g7, rfl, fun z => by rw [List.take_zero]; exact ⟨fun a => ⟨a, fun t ht => by cases ht⟩, fun a => a.1⟩, Same.refl _⟩ (fun l σ Hd _ ⟨_, _, _, _, s⟩ => SqL.of (s _ _ hD1)) ?_ ?_
    · rintro l x2 σ Hd hx2 ⟨m, g7', rfl, hm, s3⟩
      obtain ⟨u, hu, rfl⟩ := ref_get hx2
      have hld : l < ds.length := by have := (List.getElem?_eq_some_iff.mp hu).1; omega
      have ed := List.getElem?_eq_getElem hld
      have gu : Hd u = some (.tup (pr ds[l])) := s3 _ _ (mvD.at_ hu (by rw [List.getElem?_map, ed]; rfl))
      generalize ds[l] = p at ed gu
      have s1d := s1.trans (s2.trans s3)
      have s2d := s2.trans s3
      refine ⟨_, rfl, _, rfl, _, rfl, _, rfl, u, _, 0, .int p.1, rfl, rfl, SqT.of gu, rfl, _, rfl, u, _, 1, .int p.2, rfl, rfl, SqT.of gu, rfl, wh, c, ft, _, _, _, wished, t.1, rfl, hw.same s1d, al.rect rect, s2d _ _ hct, hft.same s2d, Nat.le_trans (Nat.le_of_lt (feet t htm)) (by decide), fun He s4 => ⟨_, _, rfl, _, _, rfl, fun z => ?_, s3.trans s4⟩⟩
      rw [take_snoc ed]
      have hmz := hm z
      have hmz' : z ≤ (if lowAt wished t.1 p.1 p.2 < m then lowAt wished t.1 p.1 p.2 else m) ↔ z ≤ m ∧ z ≤ lowAt wished t.1 p.1 p.2 := by split <;> omega
      rw [hmz', hmz]
      constructor
      · rintro ⟨⟨a, k1⟩, k2⟩
        refine ⟨a, fun p' hp' => ?_⟩
        rcases List.mem_append.mp hp' with hp' | hp'
        · exact k1 p' hp'
        · rw [List.mem_singleton.mp hp']; exact k2
      · rintro ⟨a, k1⟩
        exact ⟨⟨a, fun p' hp' => k1 p' (List.mem_append_left _ hp')⟩, k1 p (List.mem_append_right _ (List.mem_singleton.mpr rfl))⟩
    · rintro σ Hd ⟨m, g7', rfl, hm, s3⟩
      rw [List.length_map, ul, List.take_of_length_le (Nat.le_refl _)] at hm
      refine ⟨m, _, _, rfl, fun z => ?_, s1.trans (s2.trans s3)⟩
      rw [take_snoc ht, hm z, hn z]
      constructor
      · rintro ⟨⟨a, k1⟩, k2⟩
        refine ⟨a, fun t' ht' p hp => ?_⟩
        rcases List.mem_append.mp ht' with ht' | ht'
        · exact k1 t' ht' p hp
        · rw [List.mem_singleton.mp ht'] at hp ⊢
          exact k2 p (srt.1.mem_iff.mpr hp)
      · rintro ⟨a, k1⟩
        exact ⟨⟨a, fun t' ht' => k1 t' (List.mem_append_left _ ht')⟩, fun p hp => k1 t (List.mem_append_right _ (List.mem_singleton.mpr rfl)) p (srt.1.mem_iff.mp hp)⟩
  · rintro σ Hc ⟨n, g6, g7, rfl, hn, s1⟩
    rw [List.length_map, cl, List.take_of_length_le (Nat.le_refl _)] at hn
    have := had_over rect al hin hn
    refine ⟨_, rfl, ?_⟩
    rw [this]
    exact q Hc s1
end
end Car

set_option maxHeartbeats 2000000
namespace Car
open PySem L2
/-- the lambda in the text -/
noncomputable def lamIn : List Stmt → Scope × Pos
  | [_, Stmt.Return (some (Expr.Call _ _ [⟨_, Expr.Lambda _ _ s p, _⟩] _)) _] => (s, p)
  | _ => (defScope sHigh, ⟨0, 0, 0, 0⟩)
noncomputable abbrev lpos : Pos := (lamIn (defBody sHigh)).2
noncomputable abbrev lscope : Scope := (lamIn (defBody sHigh)).1
noncomputable def qlam : Str := "first_as_high" ++ ".<locals>." ++ "<lambda>"
theorem scLam : FnScope ["cell"] ["cell"] lscope := ⟨rfl, rfl, rfl, by decide +kernel, rfl, by decide +kernel, by decide +kernel⟩
/-- the first of cells, row by row -/
noncomputable def IsFst (S : List (Int × Int)) (c : Int × Int) : Prop := c ∈ S ∧ ∀ d ∈ S, ¬ lt2 (d.2, d.1) (c.2, c.1)
theorem IsFst.eq {S : List (Int × Int)} {c d : Int × Int} (h : IsFst S c) (g : IsFst S d) : c = d := by
  have a := h.2 d g.1
  have b := g.2 c h.1
  rcases c with ⟨c1, c2⟩
  rcases d with ⟨d1, d2⟩
  unfold lt2 at a b
  simp only [Prod.mk.injEq]
  dsimp only at a b
  omega
/-- the cells that are wished so high -/
noncomputable def highs (wished : List (List Int)) (h : Int) (cs : List (Int × Int)) : List (Int × Int) := cs.filter fun c => decide (h ≤ hgt wished c)
theorem nd3w : (["cell", "wished", "height"] : List Str).Nodup := by decide +kernel
section
variable {P : Program} {w : World} {K : PySem.W.Frag} {mg : Str → Option Value} {base : Heap} {f : Addr} {fd' : FuncData}
/-- the def, its code known -/
structure FunL (K : PySem.W.Frag) (x : Str) (st : Stmt) (f : Addr) (fd : FuncData) (c : Addr) : Prop where
  ex : ∃ (oc : Value) (od : Option Addr) (kV doc pm : Value) (an : Option Addr) (ct : Value) (osl : Array (Option Value)), fd = PySem.W.fnOf x x (defArgs st) (defBody st) (defScope st) .none kV doc pm an (.ref c) ct ∧ K.lookup f = some ⟨oc, od, .func fd, osl⟩ ∧ PySem.W.codeIn K (.ref c) x = true
  kp : PySem.W.keepIn K (.ref f) = true
theorem FunL.ok1 {x : Str} {st : Stmt} {c : Addr} {N ps : List Str} {k : Nat} {sp : Sp} (F : FunL K x st f fd' c) (S : FnScope N ps (defScope st)) (len : ∀ vs H Q E, sp vs H Q E → vs.length = ps.length)
    (hbody : ∀ (A : Around) (outer : List Env) (s : Shared) (H : Hp) (vs : List V) (Q : VK) (E : XK), Room k (A.deeper (PyProof.Rows.envOfC x (defScope st) s.heap.objs.size f (.ref c))) → sp vs H Q E →
      ∃ t, PSs (cx1 P w K mg base N x (defScope st) f (.ref c) A outer s H E) (defBody st) t ∧ t { nx := fun _ H' => Q .non H', rt := Q } (start N vs) H) : FnOk P w K mg base (CX1 P w) (k + 1) f fd' ps sp := by
  obtain ⟨oc, od, kV, doc, pm, an, ct, osl, rfl, lk, hcd⟩ := F.ex
  exact fn_of lk hcd S len fun A outer s H vs Q E hr hsp => hbody A outer s H vs Q E hr hsp
noncomputable def spHigh (Tb : Addr) : Sp := fun vs H Q _ => ∃ (wh c : Addr) (h : Int) (wished : List (List Int)) (cs : List (Int × Int)), vs = [.ref wh, .ref c, .int h] ∧ BdAt H wh wished ∧ Rect wished ∧ FtAt H c cs ∧ cs.length ≤ 1000 ∧ (∀ x ∈ cs, ins wished x = true) ∧ (∃ d ∈ cs, h ≤ hgt wished d) ∧ TabAt Tb lpos qlam H ∧
  ∀ (t : Addr) (d : Int × Int) (H' : Hp), IsFst (highs wished h cs) d → Sb Tb H H' → TabAt Tb lpos qlam H' → H' t = some (.tup (pr d)) → Q (.ref t) H'
theorem scHigh : FnScope ["wished", "cells", "height", "found"] ["wished", "cells", "height"] (defScope sHigh) := ⟨rfl, rfl, rfl, by decide +kernel, rfl, by decide +kernel, by decide +kernel⟩
theorem ok_high {c0 Tb : Addr} (T : LawT mg) (L : LamT K mg base c0 Tb) (F : FunL K "first_as_high" sHigh f fd' c0) : FnOk P w K mg base (CX1 P w) 3 f fd' ["wished", "cells", "height"] (spHigh Tb) := by
  have nd := scHigh.nd
  refine F.ok1 scHigh (fun vs H Q E h => ?_) (fun A outer s H vs Q E hr h => ?_)
  · obtain ⟨wh, c, h, wished, cs, rfl, _⟩ := h
    rfl
  obtain ⟨wh, c, h, wished, cs, rfl, hw, rect, ⟨ts, hc, mvc⟩, hl, hin, hex, tab, q⟩ := h
  have tl : ts.length = cs.length := by rw [mvc.len, List.length_map]
  refine ⟨_, (pss_cons (ps_setC (i := 3) (own := ["cell"]) (capn := ["wished", "height"]) (capI := [0, 2]) nd rfl (Or.inl rfl) rfl rfl (blkC (defScope sHigh) rfl rfl (by decide +kernel) rfl (fun y hy => by rcases List.mem_cons.mp hy with rfl | hy; exact ⟨rfl, rfl⟩; rcases List.mem_cons.mp hy with rfl | hy; exact ⟨rfl, rfl⟩; cases hy)) (pi_list (pv 1)) (fun _ _ _ _ _ _ => pg_name (i := 0) nd3w rfl (Or.inl rfl)) (fun _ _ _ _ _ _ => (pifs_one (pt_cmpR op_ge (pe_ix (ix_listK (K := K) rfl) (pe_ix (ix_listK (K := K) rfl) (pv 1) (pe_ix (ix_tupK (K := K) rfl) (pv 0) pe_int (fun _ _ => rfl)) (fun _ _ => rfl)) (pe_ix (ix_tupK (K := K) rfl) (pv 0) pe_int (fun _ _ => rfl)) (fun _ _ => rfl)) (pv 2) (nomark _)))) (fun _ _ _ _ _ _ => (pv 0)))
    (pss_one (ps_ret (pe_minL (lpos := lpos) (scope := lscope) rfl T.min (pv 3) L rfl rfl hr rfl rfl scLam (fun _ _ _ _ _ => .of_eq rfl) (fun _ _ _ _ _ _ _ _ => pe_tup (pa_cons (pe_ix (ix_tupK (K := K) rfl) (pv 0) pe_int (fun _ _ => rfl)) (pa_cons (pe_ix (ix_tupK (K := K) rfl) (pv 0) pe_int (fun _ _ => rfl)) pa_nil))) (fun H Q a x y ha hq => ⟨_, rfl, a, _, 1, .int y, rfl, rfl, SqT.of ha, rfl, _, rfl, a, _, 0, .int x, rfl, rfl, SqT.of ha, rfl, le2, hq⟩))))), ?_⟩
  obtain ⟨rs, hw1, ra⟩ := id hw
  have rl := ra.len
  refine ⟨_, rfl, c, rfl, ⟨_, SqL.of hc⟩, fun D hD => ?_⟩
  refine ⟨Wd ts.length (fun i σ acc H2 => ∃ (z : Option V) (us : List Addr), σ = [z, some (.ref wh), some (.int h)] ∧ acc = us.map V.ref ∧ us.length ≤ i ∧ MvAt H2 us ((highs wished h (cs.take i)).map pr) ∧ Same H H2 ∧ H2 D = some (.lst acc)), wd_0 ⟨none, [], rfl, rfl, Nat.le_refl _, by rw [List.take_zero]; exact True.intro, same_upd hD _, upd_same⟩, ?_⟩
  rintro i im σ acc H2 ⟨rfl, hi0, z, us, rfl, rfl, ul, mv, s2, hD2⟩
  refine lc_ask (K := K) (xs := ts.map V.ref) (SqL.of (s2 _ _ hc)) (by rw [List.length_map]; exact hi0) (fun x hx hi => ?_) (fun hend => ?_)
  · obtain ⟨t, ht, rfl⟩ := ref_get hx
    have hi' : i < ts.length := by rw [List.length_map] at hi; exact hi
    have hic : i < cs.length := by omega
    have ec := List.getElem?_eq_getElem hic
    have gt : H2 t = some (.tup (pr cs[i])) := s2 _ _ (mvc.at_ ht (by rw [List.getElem?_map, ec]; rfl))
    have hcm : cs[i] ∈ cs := List.getElem_mem hic
    generalize cs[i] = c1 at ec gt hcm
    obtain ⟨i1, j1, row, v, e1, hrow, hv, hh⟩ := ins_at (hin c1 hcm) rect
    obtain ⟨r, hr', hrl⟩ := ra.at_ hrow
    have t1 : c1.1 = (j1 : Int) := by rw [e1]
    have t2 : c1.2 = (i1 : Int) := by rw [e1]
    refine ⟨_, rfl, _, rfl, t, _, 1, .int c1.2, rfl, rfl, SqT.of gt, rfl, wh, _, c1.2, .ref r, rfl, rfl, SqL.of (s2 _ _ hw1), by rw [t2]; exact atI_nat (by rw [List.getElem?_map, hr']; rfl), _, rfl, t, _, 0, .int c1.1, rfl, rfl, SqT.of gt, rfl, r, _, c1.1, .int v, rfl, rfl, SqL.of (s2 _ _ hrl), by rw [t1]; exact atI_nat (by rw [List.getElem?_map, hv]; rfl), _, rfl, _, _, rfl, rfl, _, rfl, ?_⟩
    rw [← hh]
    refine ite2 (fun h1 => ?_) (fun h1 => ?_)
    · have a1 : h ≤ hgt wished c1 := of_decide_eq_true h1
      refine ⟨_, rfl, hD2, ?_, wd_next hi' ⟨_, us ++ [t], rfl, by rw [List.map_append]; rfl, by rw [List.length_append]; show us.length + 1 ≤ _; omega, ?_, same_in s2 hD, upd_same⟩⟩
      · rw [List.length_map]
        exact line3 (show us.length ≤ 1000 by omega) (by decide)
      · have e3 : highs wished h (cs.take (i + 1)) = highs wished h (cs.take i) ++ [c1] := by
          unfold highs
          rw [take_snoc ec, List.filter_append]
          simp [a1]
        rw [e3, List.map_append]
        exact (mv.snoc gt).upd (sbn hD2)
    · refine wd_next hi' ⟨_, us, rfl, rfl, by omega, ?_, s2, hD2⟩
      have a1 : ¬ h ≤ hgt wished c1 := fun z => h1 (decide_eq_true z)
      have e3 : highs wished h (cs.take (i + 1)) = highs wished h (cs.take i) := by
        unfold highs
        rw [take_snoc ec, List.filter_append]
        simp [a1]
      rw [e3]
      exact mv
  · rw [List.length_map] at hend
    rw [hend, tl, List.take_of_length_le (Nat.le_refl _)] at mv
    have ul2 : us.length = (highs wished h cs).length := by rw [mv.len, List.length_map]
    have hpos : 0 < us.length := by
      obtain ⟨d, hd, hd2⟩ := hex
      rw [ul2]
      exact List.length_pos_of_mem (a := d) (List.mem_filter.mpr ⟨hd, decide_eq_true hd2⟩)
    refine ⟨_, rfl, D, us, highs wished h cs, rfl, hD2, fun k t hk => ?_, ul2, hpos, tab.same s2, fun k t d H' hk hd best keep tab' => ?_⟩
    · have hkl : k < (highs wished h cs).length := by have := (List.getElem?_eq_some_iff.mp hk).1; omega
      exact ⟨_, List.getElem?_eq_getElem hkl, mv.at_ hk (by rw [List.getElem?_map, List.getElem?_eq_getElem hkl]; rfl)⟩
    · obtain ⟨pt, ept⟩ := (tab.same s2).tbl
      have et : H2 t = some (.tup (pr d)) := mv.at_ hk (by rw [List.getElem?_map, hd]; rfl)
      have ntT : t ≠ Tb := fun z => by rw [z, ept] at et; cases et
      exact q t d H' ⟨List.mem_of_getElem? hd, best⟩ (fun x o n e => keep x o n (s2 x o e)) tab' (keep _ _ ntT et)
end
end Car

set_option maxHeartbeats 2000000
namespace Car
open PySem L2
/-! ### the places over a cell, column by column -/
noncomputable def cols (w d : Nat) : List (Int × Int) := (List.range w).flatMap fun (px : Nat) => (List.range d).map fun (py : Nat) => ((px : Int), (py : Int))
noncomputable def plc (rows : List (List Int)) (foot : List (Int × Int)) (x y : Int) : List (Int × Int) := (cols (rows.headD []).length rows.length).filter fun p => decide (shb x y p ∈ foot)
theorem mem_cols {w d : Nat} {p : Int × Int} : p ∈ cols w d ↔ 0 ≤ p.1 ∧ p.1 < w ∧ 0 ≤ p.2 ∧ p.2 < d := by
  unfold cols
  rw [List.mem_flatMap]
  constructor
  · rintro ⟨px, h1, h2⟩
    obtain ⟨py, h3, rfl⟩ := List.mem_map.mp h2
    have a := List.mem_range.mp h1
    have b := List.mem_range.mp h3
    exact ⟨by show (0 : Int) ≤ px; omega, by show (px : Int) < w; omega, by show (0 : Int) ≤ py; omega, by show (py : Int) < d; omega⟩
  · rintro ⟨a, b, c, e⟩
    refine ⟨p.1.toNat, List.mem_range.mpr (by omega), List.mem_map.mpr ⟨p.2.toNat, List.mem_range.mpr (by omega), ?_⟩⟩
    rcases p with ⟨p1, p2⟩
    dsimp only at a b c e ⊢
    rw [show ((p1.toNat : Nat) : Int) = p1 by omega, show ((p2.toNat : Nat) : Int) = p2 by omega]
theorem cols_up {w d : Nat} (hd : d ≤ 1000) : (cols w d).Pairwise fun a b => rkP a < rkP b := by
  unfold cols
  rw [List.pairwise_flatMap]
  refine ⟨fun px _ => ?_, ?_⟩
  · rw [List.pairwise_map]
    refine List.Pairwise.imp (fun {a b} h => ?_) List.pairwise_lt_range
    unfold rkP
    dsimp only
    omega
  · refine List.Pairwise.imp (fun {a b} h => ?_) List.pairwise_lt_range
    intro p hp q hq
    obtain ⟨p2, h1, rfl⟩ := List.mem_map.mp hp
    obtain ⟨q2, h2, rfl⟩ := List.mem_map.mp hq
    have := List.mem_range.mp h1
    have := List.mem_range.mp h2
    unfold rkP
    dsimp only
    omega
theorem sorted_eq : ∀ {as bs : List (Int × Int)}, as.Perm bs → as.Pairwise (fun a b => rkP a ≤ rkP b) → bs.Pairwise (fun a b => rkP a ≤ rkP b) → (∀ a ∈ as, ∀ b ∈ as, rkP a = rkP b → a = b) → as = bs
  | [], bs, p, _, _, _ => (List.Perm.nil_eq p)
  | a :: as, [], p, _, _, _ => by have := p.length_eq; simp at this
  | a :: as, b :: bs, p, h1, h2, inj => by
    rw [List.pairwise_cons] at h1 h2
    have hab : a = b := by
      by_cases e : a = b
      · exact e
      · have ha : a ∈ bs := by
          rcases List.mem_cons.mp (p.mem_iff.mp (List.mem_cons_self)) with z | z
          · exact absurd z e
          · exact z
        have hb : b ∈ as := by
          rcases List.mem_cons.mp (p.mem_iff.mpr (List.mem_cons_self)) with z | z
          · exact absurd z.symm e
          · exact z
        exact inj a List.mem_cons_self b (List.mem_cons_of_mem _ hb) (Int.le_antisymm (h1.1 b hb) (h2.1 a ha))
    subst hab
    rw [sorted_eq (List.Perm.cons_inv p) h1.2 h2.2 fun x hx y hy => inj x (List.mem_cons_of_mem _ hx) y (List.mem_cons_of_mem _ hy)]
theorem ins_cols {rows : List (List Int)} {p : Int × Int} : ins rows p = true ↔ p ∈ cols (rows.headD []).length rows.length := by
  rw [mem_cols]
  unfold ins
  rw [decide_eq_true_iff]
  omega
theorem rk_inj {rows : List (List Int)} (h40 : rows.length ≤ 40) {a b : Int × Int} (ha : ins rows a = true) (hb : ins rows b = true) (e : rkP a = rkP b) : a = b := by
  have h1 := of_decide_eq_true ha
  have h2 := of_decide_eq_true hb
  unfold rkP at e
  rcases a with ⟨a1, a2⟩
  rcases b with ⟨b1, b2⟩
  dsimp only at h1 h2 e
  simp only [Prod.mk.injEq]
  omega
theorem shb_shb (x y : Int) (c : Int × Int) : shb x y (shb x y c) = c := by
  rcases c with ⟨a, b⟩
  unfold shb
  simp only [Prod.mk.injEq]
  omega
/-- sorted, they are the places column by column -/
theorem plc_of {rows : List (List Int)} {foot ds : List (Int × Int)} {x y : Int} (h40 : rows.length ≤ 40) (nf : foot.Nodup) (h : SrtOf (ovs rows foot x y) ds) : ds = plc rows foot x y := by
  have up : (plc rows foot x y).Pairwise fun a b => rkP a < rkP b := (cols_up (by omega)).filter _
  have nd2 : (plc rows foot x y).Nodup := up.imp fun {a b} l e => by rw [e] at l; omega
  have nd1 : (ovs rows foot x y).Nodup := by
    unfold ovs
    refine List.Pairwise.filter _ ?_
    refine List.Pairwise.map _ (fun a b hab e => hab ?_) nf
    have := congrArg (shb x y) e
    rw [shb_shb, shb_shb] at this
    exact this
  have pm : (ovs rows foot x y).Perm (plc rows foot x y) := by
    refine (List.perm_ext_iff_of_nodup nd1 nd2).mpr fun p => ?_
    unfold ovs plc
    rw [List.mem_filter, List.mem_filter, List.mem_map, ← ins_cols, decide_eq_true_iff]
    constructor
    · rintro ⟨⟨s, hs, rfl⟩, hi⟩
      exact ⟨hi, by rw [shb_shb]; exact hs⟩
    · rintro ⟨hi, hs⟩
      exact ⟨⟨_, hs, shb_shb x y p⟩, hi⟩
  refine sorted_eq (h.1.trans pm) h.2 (up.imp fun {a b} l => Int.le_of_lt l) fun a ha b hb e => ?_
  have ia : ∀ c ∈ ds, ins rows c = true := fun c hc => (List.mem_filter.mp (h.1.mem_iff.mp hc)).2
  exact rk_inj h40 (ia a ha) (ia b hb) e
/-! ### what is told -/
open Classical in
noncomputable def fstF (S : List (Int × Int)) : Int × Int := if h : ∃ c, IsFst S c then h.choose else (0, 0)
theorem IsFst.f {S : List (Int × Int)} {c : Int × Int} (h : IsFst S c) : fstF S = c := by
  unfold fstF
  rw [dif_pos ⟨c, h⟩]
  exact (Exists.choose_spec (⟨c, h⟩ : ∃ c, IsFst S c)).eq h
noncomputable def rowF (bed wished : List (List Int)) (left : Int) (n : Nat) (t : Tool) (p : Int × Int) : List Int := [(n : Int), p.1, p.2, (fstF (highs wished left (und bed t.1 p.1 p.2))).1, (fstF (highs wished left (und bed t.1 p.1 p.2))).2]
noncomputable def whyF (bed wished : List (List Int)) (left x y : Int) : Nat → List Tool → List (List Int)
  | _, [] => []
  | n, t :: ts => (plc bed t.1 x y).map (rowF bed wished left n t) ++ whyF bed wished left x y (n + 1) ts
theorem whyF_snoc (bed wished : List (List Int)) (left x y : Int) (t : Tool) : ∀ (ts : List Tool) (n : Nat), whyF bed wished left x y n (ts ++ [t]) = whyF bed wished left x y n ts ++ (plc bed t.1 x y).map (rowF bed wished left (n + ts.length) t)
  | [], n => by
    rw [List.nil_append, whyF, whyF, whyF, List.append_nil, List.nil_append]
    rfl
  | u :: ts, n => by
    rw [List.cons_append, whyF, whyF_snoc bed wished left x y t ts (n + 1), whyF, List.append_assoc, List.length_cons]
    rw [show n + 1 + ts.length = n + (ts.length + 1) by omega]
theorem mxF_mem : ∀ (r : List Int) (a : Int), mxF a r = a ∨ mxF a r ∈ r
  | [], a => .inl rfl
  | b :: r, a => by
    rw [mxF]
    rcases mxF_mem r (if b > a then b else a) with h | h
    · rw [h]
      split
      · exact .inr List.mem_cons_self
      · exact .inl rfl
    · exact .inr (List.mem_cons_of_mem _ h)
theorem mxD_mem {r : List Int} (h : r ≠ []) : mxD 0 r ∈ r := by
  cases r with
  | nil => exact absurd rfl h
  | cons a r =>
    rw [mxD]
    rcases mxF_mem r a with e | e
    · rw [e]; exact List.mem_cons_self
    · exact List.mem_cons_of_mem _ e
/-- at a place over a cell something under the cutter is wished so high -/
theorem high_some {bed wished : List (List Int)} (R : Rect bed) (A : Alike bed wished) {ts : List Tool} {x y : Int} (hin : ins bed (x, y) = true) {t : Tool} (ht : t ∈ ts) {p : Int × Int} (hp : p ∈ ovs bed t.1 x y) : ∃ d ∈ und bed t.1 p.1 p.2, hgt (hadF bed wished ts) (x, y) ≤ hgt wished d := by
  obtain ⟨h1, s, hs, e⟩ := mem_ovs.mp hp
  have hle := ((le_had R hin (wished := wished) (ts := ts) _).mp (Int.le_refl _)).2 t ht s hs p h1 e
  have hne : (x, y) ∈ und bed t.1 p.1 p.2 := by
    unfold und
    rw [List.mem_filter, List.mem_map]
    exact ⟨⟨s, hs, e.symm⟩, hin⟩
  have hm := mxD_mem (r := (und bed t.1 p.1 p.2).map (hgt wished)) (fun z => by
    rw [List.map_eq_nil_iff] at z
    rw [z] at hne
    cases hne)
  obtain ⟨d, hd, ed⟩ := List.mem_map.mp hm
  exact ⟨d, hd, by rw [ed]; exact hle⟩
end Car

set_option maxHeartbeats 2000000
namespace Car
open PySem L2
/-! ### all but the table -/
section
variable {H : Hp} {Tb : Addr} {ps : Array Value}
theorem dr_at (ht : H Tb = some (.tbl ps)) {x : Addr} {o : HO} (e : H x = some o) (n : ∀ q, o ≠ .tbl q) : L2.drop H Tb x = some o := by
  rw [drop_ne (fun z => by rw [z, ht] at e; exact n ps (Option.some.inj e).symm)]
  exact e
theorem RowsAt.dr (ht : H Tb = some (.tbl ps)) : ∀ {rs : List Addr} {rows : List (List Int)}, RowsAt H rs rows → RowsAt (L2.drop H Tb) rs rows
  | [], [], _ => True.intro
  | _ :: _, _ :: _, h => ⟨dr_at ht h.1 (fun q z => by cases z), RowsAt.dr ht h.2⟩
  | [], _ :: _, h => h.elim
  | _ :: _, [], h => h.elim
theorem MvAt.dr (ht : H Tb = some (.tbl ps)) : ∀ {ts : List Addr} {ms : List (List V)}, MvAt H ts ms → MvAt (L2.drop H Tb) ts ms
  | [], [], _ => True.intro
  | _ :: _, _ :: _, h => ⟨dr_at ht h.1 (fun q z => by cases z), MvAt.dr ht h.2⟩
  | [], _ :: _, h => h.elim
  | _ :: _, [], h => h.elim
theorem BdAt.dr (ht : H Tb = some (.tbl ps)) {b : Addr} {rows : List (List Int)} (h : BdAt H b rows) : BdAt (L2.drop H Tb) b rows := by
  obtain ⟨rs, a, c⟩ := h
  exact ⟨rs, dr_at ht a (fun q z => by cases z), c.dr ht⟩
theorem FtAt.dr (ht : H Tb = some (.tbl ps)) {b : Addr} {cs : List (Int × Int)} (h : FtAt H b cs) : FtAt (L2.drop H Tb) b cs := by
  obtain ⟨rs, a, c⟩ := h
  exact ⟨rs, dr_at ht a (fun q z => by cases z), c.dr ht⟩
theorem CtsAt.dr (ht : H Tb = some (.tbl ps)) : ∀ {cs : List Addr} {ts : List Tool}, CtsAt H cs ts → CtsAt (L2.drop H Tb) cs ts
  | [], [], _ => True.intro
  | _ :: _, _ :: _, h => by
    obtain ⟨⟨ft, a, b⟩, r⟩ := h
    exact ⟨⟨ft, dr_at ht a (fun q z => by cases z), b.dr ht⟩, CtsAt.dr ht r⟩
  | [], _ :: _, h => h.elim
  | _ :: _, [], h => h.elim
theorem ShAt.dr (ht : H Tb = some (.tbl ps)) {b : Addr} {ts : List Tool} (h : ShAt H b ts) : ShAt (L2.drop H Tb) b ts := by
  obtain ⟨cs, a, c⟩ := h
  exact ⟨cs, dr_at ht a (fun q z => by cases z), c.dr ht⟩
theorem sb_dr {H' : Hp} : Sb Tb H H' ↔ Same (L2.drop H Tb) H' := by
  constructor
  · intro h x o e
    have n : x ≠ Tb := fun z => by rw [z, drop_same] at e; cases e
    rw [drop_ne n] at e
    exact h x o n e
  · intro h x o n e
    exact h x o (by rw [drop_ne n]; exact e)
end
/-- rows of whole numbers, as tuples -/
noncomputable def RsAt (H : Hp) (R : Addr) (rows : List (List Int)) : Prop := ∃ us, H R = some (.lst (us.map V.ref)) ∧ MvAt H us (rows.map fun r => r.map V.int)
section
variable {P : Program} {w : World} {K : PySem.W.Frag} {mg : Str → Option Value} {base : Heap} {f : Addr} {fd' : FuncData}
noncomputable def spWhy (Tb : Addr) : Sp := fun vs H Q _ => ∃ (b wh sh : Addr) (x y : Int) (bed wished : List (List Int)) (ts : List Tool), vs = [.ref b, .ref wh, .ref sh, .int x, .int y] ∧ BdAt H b bed ∧ BdAt H wh wished ∧ ShAt H sh ts ∧ Rect bed ∧ Alike bed wished ∧ Small bed ∧ (∀ t ∈ ts, t.1.length ≤ 26 ∧ t.1.Nodup) ∧ ts.length ≤ 6 ∧ ins bed (x, y) = true ∧ TabAt Tb lpos qlam H ∧
  ∀ (R : Addr) (H' : Hp), H R = none → Sb Tb H H' → TabAt Tb lpos qlam H' → RsAt H' R (whyF bed wished (hgt (hadF bed wished ts) (x, y)) x y 0 ts) → Q (.ref R) H'
theorem scWhy : FnScope ["bed", "wished", "shelf", "x", "y", "left", "told", "number", "cutter", "place", "spoiled"] ["bed", "wished", "shelf", "x", "y"] (defScope sWhy) := ⟨rfl, rfl, rfl, by decide +kernel, rfl, by decide +kernel, by decide +kernel⟩
theorem plc_len {rows : List (List Int)} {foot : List (Int × Int)} {x y : Int} {ds : List (Int × Int)} (h : SrtOf (ovs rows foot x y) ds) : ds.length ≤ foot.length := by
  rw [h.1.length_eq]
  unfold ovs
  exact Nat.le_trans (List.length_filter_le _ _) (by rw [List.length_map]; exact Nat.le_refl _)
theorem ok_why {Tb : Addr} (T : LawT mg) (hen : mg "enumerate" = none) (FO : Fn P w K mg base "lowest_over" 4 ["bed", "wished", "shelf", "x", "y"] spOver) (FP : Fn P w K mg base "places_over" 2 ["bed", "cutter", "x", "y"] spPlaces) (FU : Fn P w K mg base "cells_under" 2 ["bed", "cutter", "x", "y"] spUnder) (FH : Fn P w K mg base "first_as_high" 3 ["wished", "cells", "height"] (spHigh Tb))
    (F : Fun K "why_left" "why_left" sWhy f fd') : FnOk P w K mg base (CX1 P w) 5 f fd' ["bed", "wished", "shelf", "x", "y"] (spWhy Tb) := by
  have nd := scWhy.nd
  refine F.ok1 scWhy (fun vs H Q E h => ?_) (fun cdv A outer s H vs Q E hr h => ?_)
  · obtain ⟨b, wh, sh, x, y, bed, wished, ts, rfl, _⟩ := h
    rfl
  obtain ⟨b, wh, sh, x, y, bed, wished, ts, rfl, hb, hw, hs, rect, al, small, feet, many, hin, tab, q⟩ := h
  have hr2 : Room 2 _ := hr.mono (by decide)
  have hr3 : Room 3 _ := hr.mono (by decide)
  refine ⟨_, (pss_cons (ps_set (i := 5) nd rfl (Or.inl rfl) (pf_call FO hr rfl (pass1 (E := E)) (pa_cons (pv 0) (pa_cons (pv 1) (pa_cons (pv 2) (pa_cons (pv 3) (pa_cons (pv 4) pa_nil)))))))
    (pss_cons (ps_set (i := 6) nd rfl (Or.inl rfl) (pe_lst pa_nil))
    (pss_cons (ps_for own1 rfl (pi_enum rfl hen (pa_cons (pv 2) pa_nil)) (pg_tup rfl (pgs_cons (pg_name (i := 7) nd rfl (Or.inl rfl)) (pgs_cons (pg_name (i := 8) nd rfl (Or.inl rfl)) pgs_nil))) (pss_one (ps_for own1 rfl (pi_list (pf_call FP hr2 rfl (pass1 (E := E)) (pa_cons (pv 0) (pa_cons (pv 8) (pa_cons (pv 3) (pa_cons (pv 4) pa_nil)))))) (pg_name (i := 9) nd rfl (Or.inl rfl)) (pss_cons (ps_set (i := 10) nd rfl (Or.inl rfl) (pf_call FH hr3 rfl (pass1 (E := E)) (pa_cons (pv 1) (pa_cons (pf_call FU hr2 rfl (pass1 (E := E)) (pa_cons (pv 0) (pa_cons (pv 8) (pa_cons (pe_ix ix_tup (pv 9) pe_int (fun _ _ => rfl)) (pa_cons (pe_ix ix_tup (pv 9) pe_int (fun _ _ => rfl)) pa_nil))))) (pa_cons (pv 5) pa_nil)))))
    (pss_one (ps_expr (pe_bm PySem.F.plainAttrs_list PySem.F.slot_list_append PySem.F.type_list_append mt_append (pv 6) (pa_cons (pe_tup (pa_cons (pv 7) (pa_cons (pe_ix ix_tup (pv 9) pe_int (fun _ _ => rfl)) (pa_cons (pe_ix ix_tup (pv 9) pe_int (fun _ _ => rfl)) (pa_cons (pe_ix ix_tup (pv 10) pe_int (fun _ _ => rfl)) (pa_cons (pe_ix ix_tup (pv 10) pe_int (fun _ _ => rfl)) pa_nil)))))) pa_nil))))))))
    (pss_one (ps_ret (pv 6)))))), ?_⟩
  have feet64 : ∀ t ∈ ts, t.1.length < 64 := fun t ht => by have := (feet t ht).1; omega
  refine ⟨_, rfl, _, rfl, _, rfl, _, rfl, _, rfl, b, wh, sh, x, y, bed, wished, ts, rfl, hb, hw, hs, rect, al, small, feet64, hin, fun H1 s1 => ?_⟩
  obtain ⟨left, hleft⟩ : ∃ left, hgt (hadF bed wished ts) (x, y) = left := ⟨_, rfl⟩
  rw [hleft] at q ⊢
  refine ⟨Nat.zero_le _, fun R hR => ?_⟩
  have uR := same_upd hR (.lst [])
  have s2 := s1.trans uR
  obtain ⟨ps, eTb⟩ := tab.tbl
  have nR : H R = none := s1.free hR
  have nRT : R ≠ Tb := fun z => by rw [z, eTb] at nR; cases nR
  have hbD := hb.dr eTb
  have hwD := hw.dr eTb
  obtain ⟨cs, hs1, cts⟩ := hs.dr eTb
  have cl := cts.len
  have nRD : L2.drop H Tb R = none := by rw [drop_ne nRT]; exact nR
  have dR : ∀ {Hc : Hp}, Same H Hc → Same (L2.drop H Tb) Hc := fun s => drop_le.trans s
  refine ⟨_, rfl, sh, cs.map V.ref, rfl, SqL.of ((dR s2) _ _ hs1), ?_⟩
  refine for_enum (K := K) (a := sh) (xs := cs.map V.ref) (fun i σ Hc => ∃ (g7 g8 g9 g10 : Option V) (us : List Addr), σ = [some (.ref b), some (.ref wh), some (.ref sh), some (.int x), some (.int y), some (.int left), some (.ref R), g7, g8, g9, g10] ∧ Same (L2.drop H Tb) Hc ∧ TabAt Tb lpos qlam Hc ∧ Hc R = some (.lst (us.map V.ref)) ∧ us.length ≤ 30 * i ∧ MvAt Hc us ((whyF bed wished left x y 0 (ts.take i)).map fun r => r.map V.int))
    ⟨none, none, none, none, [], rfl, dR s2, tab.same s2, upd_same, Nat.zero_le _, by rw [List.take_zero]; exact True.intro⟩ (fun i σ Hc _ ⟨_, _, _, _, _, _, s, _⟩ => SqL.of (s _ _ hs1)) ?_ ?_
  · rintro i x' σ Hc hx ⟨g7, g8, g9, g10, us, rfl, sc, tabc, hRc, ul, mvc⟩ T0 hT0
    obtain ⟨c, hc, rfl⟩ := ref_get hx
    obtain ⟨t, ht, ct⟩ := (cts.same sc).at_ hc
    obtain ⟨ft, hct, hft⟩ := ct
    have htm : t ∈ ts := List.mem_of_getElem? ht
    have hit : i < ts.length := (List.getElem?_eq_some_iff.mp ht).1
    have uT := same_upd hT0 (.tup [V.int i, .ref c])
    refine ⟨T0, _, rfl, SqT.of upd_same, rfl, _, _, rfl, _, _, rfl, rfl, ?_⟩
    refine ⟨_, rfl, _, rfl, _, rfl, _, rfl, b, c, ft, _, x, y, bed, t.1, rfl, hbD.same (sc.trans uT), rect.1, small.1, uT _ _ hct, hft.same uT, feet64 t htm, fun D H2 ds nD s2' hD srt => ?_⟩
    have dl := plc_len srt
    have dlc := plc_of small.1 (feet t htm).2 srt
    obtain ⟨us2, hD1, mvD⟩ := hD
    have ul2 : us2.length = ds.length := by rw [mvD.len, List.length_map]
    have sT2 := uT.trans s2'
    have sc2 := sc.trans sT2
    have tab2 := tabc.same sT2
    have hR2 := sT2 _ _ hRc
    have mv2 := mvc.same sT2
    have hct2 := sT2 _ _ hct
    have hft2 := hft.same sT2
    obtain ⟨ps2, eTb2⟩ := tab2.tbl
    have hctD := dr_at eTb2 hct2 (fun q z => by cases z)
    have hftD := hft2.dr eTb2
    have hDD := dr_at eTb2 hD1 (fun q z => by cases z)
    have mvDD := mvD.dr eTb2
    have nDT : D ≠ Tb := fun z => by rw [z, eTb2] at hD1; cases hD1
    have f26 := (feet t htm).1
    refine ⟨D, rfl, ⟨_, SqL.of hD1⟩, ?_⟩
    refine for_list (K := K) (a := D) (xs := us2.map V.ref) (fun j σ Hd => ∃ (g9 g10 : Option V) (us3 : List Addr), σ = [some (.ref b), some (.ref wh), some (.ref sh), some (.int x), some (.int y), some (.int left), some (.ref R), some (.int (i : Int)), some (.ref c), g9, g10] ∧ Same (L2.drop H Tb) Hd ∧ (∀ z o, z ≠ R → L2.drop H2 Tb z = some o → Hd z = some o) ∧ TabAt Tb lpos qlam Hd ∧ Hd R = some (.lst (us3.map V.ref)) ∧ us3.length ≤ 30 * i + j ∧ MvAt Hd us3 ((whyF bed wished left x y 0 (ts.take i) ++ (ds.take j).map (rowF bed wished left i t)).map fun r => r.map V.int))
      ⟨g9, g10, us, rfl, sc2, fun z o _ e => drop_le z o e, tab2, hR2, by omega, by rw [List.take_zero, List.map_nil, List.append_nil]; exact mv2⟩ (fun j σ Hd _ ⟨_, _, _, _, _, k, _⟩ => SqL.of (k _ _ (fun z => by rw [z] at hD1 nD; rw [uT _ _ hRc] at nD; cases nD) hDD)) ?_ ?_
    · rintro j x2 σ Hd hx2 ⟨g9', g10', us3, rfl, scd, kd, tabd, hRd, ul3, mvd⟩
      have nDR : D ≠ R := fun z => by rw [z, uT _ _ hRc] at nD; cases nD
      obtain ⟨u, hu, rfl⟩ := ref_get hx2
      have hld : j < ds.length := by have := (List.getElem?_eq_some_iff.mp hu).1; omega
      have ed := List.getElem?_eq_getElem hld
      have gu0 : L2.drop H2 Tb u = some (.tup (pr ds[j])) := mvDD.at_ hu (by rw [List.getElem?_map, ed]; rfl)
      have hpm : ds[j] ∈ ds := List.getElem_mem hld
      generalize ds[j] = p at ed gu0 hpm
      have gu : Hd u = some (.tup (pr p)) := kd _ _ (fun z => by rw [z] at gu0; have := drop_le _ _ gu0; rw [hR2] at this; cases this) gu0
      obtain ⟨t', ht', ctd⟩ := (cts.same scd).at_ hc
      rw [ht] at ht'
      cases ht'
      obtain ⟨ftd, hctd, hftd⟩ := ctd
      have hpo : p ∈ ovs bed t.1 x y := srt.1.mem_iff.mp hpm
      refine ⟨_, rfl, _, rfl, _, rfl, _, rfl, u, _, 0, .int p.1, rfl, rfl, SqT.of gu, rfl, _, rfl, u, _, 1, .int p.2, rfl, rfl, SqT.of gu, rfl, b, c, ftd, _, p.1, p.2, bed, t.1, rfl, hbD.same scd, rect.1, hctd, hftd, by omega, fun D2 H4 n4 s4 hD2 => ?_⟩
      have sc4 := scd.trans s4
      have hsome := high_some rect al (wished := wished) hin htm hpo
      rw [hleft] at hsome
      refine ⟨_, rfl, wh, D2, left, wished, _, rfl, hwD.same sc4, al.rect rect, hD2, ?_, fun c' hc' => ?_, hsome, tabd.same s4, fun t5 d5 H5 isf sb5 tab5 ht5 => ?_⟩
      · unfold und
        exact Nat.le_trans (List.length_filter_le _ _) (by rw [List.length_map]; omega)
      · rw [← al.ins]
        exact (List.mem_filter.mp hc').2
      obtain ⟨ps4, eTb4⟩ := (tabd.same s4).tbl
      have k5 : Same (L2.drop H4 Tb) H5 := sb_dr.mp sb5
      have sc5 : Same (L2.drop H Tb) H5 := fun z o e => k5 z o (by
        have n : z ≠ Tb := fun y => by rw [y, drop_same] at e; cases e
        rw [drop_ne n]
        exact sc4 z o e)
      have hR5 : H5 R = some (.lst (us3.map V.ref)) := k5 _ _ (dr_at eTb4 (s4 _ _ hRd) (fun q z => by cases z))
      have gu5 : H5 u = some (.tup (pr p)) := k5 _ _ (dr_at eTb4 (s4 _ _ gu) (fun q z => by cases z))
      have mv5 : MvAt H5 us3 ((whyF bed wished left x y 0 (ts.take i) ++ (ds.take j).map (rowF bed wished left i t)).map fun r => r.map V.int) := ((mvd.same s4).dr eTb4).same k5
      have kd5 : ∀ z o, z ≠ R → L2.drop H2 Tb z = some o → H5 z = some o := fun z o n e => by
        have nT : z ≠ Tb := fun y => by rw [y, drop_same] at e; cases e
        exact k5 z o (by rw [drop_ne nT]; exact s4 _ _ (kd z o n e))
      refine ⟨_, rfl, .inl ⟨rfl, _, SqL.of hR5⟩, _, rfl, _, rfl, u, _, 0, .int p.1, rfl, rfl, SqT.of gu5, rfl, _, rfl, u, _, 1, .int p.2, rfl, rfl, SqT.of gu5, rfl, _, rfl, t5, _, 0, .int d5.1, rfl, rfl, SqT.of ht5, rfl, _, rfl, t5, _, 1, .int d5.2, rfl, rfl, SqT.of ht5, rfl, (by show 5 ≤ sizeLine; decide), fun t6 h6 => ?_⟩
      have u6 := same_upd h6 (.tup [V.int i, .int p.1, .int p.2, .int d5.1, .int d5.2])
      have hR6 := u6 _ _ hR5
      have n6R : t6 ≠ R := fun z => by rw [z, hR5] at h6; cases h6
      refine ⟨R, _, _, rfl, rfl, hR6, ?_, _, _, us3 ++ [t6], rfl, ?_, fun z o n e => ?_, ?_, ?_, ?_, ?_⟩
      · rw [List.length_map]
        exact line3 (show us3.length ≤ 1000 by omega) (by decide)
      · exact same_in (sc5.trans u6) nRD
      · rw [upd_ne n]
        exact u6 _ _ (kd5 z o n e)
      · have t6' := tab5.same u6
        rcases t6' with e | ⟨c', e, ec⟩
        · exact .inl (by rw [upd_ne (Ne.symm nRT)]; exact e)
        · refine .inr ⟨c', by rw [upd_ne (Ne.symm nRT)]; exact e, ?_⟩
          rw [upd_ne (fun z => by rw [z, hR6] at ec; cases ec)]
          exact ec
      · rw [upd_same, List.map_append]
        rfl
      · rw [List.length_append]
        show us3.length + 1 ≤ _
        omega
      · have el : (whyF bed wished left x y 0 (ts.take i) ++ (ds.take (j + 1)).map (rowF bed wished left i t)).map (fun r => r.map V.int) = (whyF bed wished left x y 0 (ts.take i) ++ (ds.take j).map (rowF bed wished left i t)).map (fun r => r.map V.int) ++ [(rowF bed wished left i t p).map V.int] := by
          rw [take_snoc ed, List.map_append (f := rowF bed wished left i t), ← List.append_assoc, List.map_append (l₂ := [p].map _)]
          rfl
        rw [el]
        refine MvAt.upd (sbn hR6) ((mv5.same u6).snoc ?_)
        rw [upd_same]
        have ef := isf.f
        show some (HO.tup [V.int i, .int p.1, .int p.2, .int d5.1, .int d5.2]) = some (.tup ((rowF bed wished left i t p).map V.int))
        rw [rowF, ef]
        rfl
    · rintro σ Hd ⟨g9', g10', us3, rfl, scd, kd, tabd, hRd, ul3, mvd⟩
      rw [List.length_map, ul2, List.take_of_length_le (Nat.le_refl _)] at mvd
      refine ⟨_, _, _, _, us3, rfl, scd, tabd, hRd, ?_, ?_⟩
      · rw [List.length_map] at ul3
        omega
      · rw [take_snoc ht, whyF_snoc, ← dlc, List.length_take, Nat.min_eq_left (Nat.le_of_lt hit), Nat.zero_add]
        exact mvd
  · rintro σ Hc ⟨g7, g8, g9, g10, us, rfl, sc, tabc, hRc, ul, mvc⟩
    rw [List.length_map, cl, List.take_of_length_le (Nat.le_refl _)] at mvc
    exact ⟨_, rfl, q R Hc nR (sb_dr.mpr sc) tabc ⟨us, hRc, mvc⟩⟩
end
end Car

set_option maxHeartbeats 2000000
namespace Car
open PySem L2
theorem pg_tupK {X : Cx} {K : PySem.W.Frag} {pos : Pos} {es : List Expr} {k : Nat} {t : TGs} {n : Nat} (hK : X.K = K) (hc : X.calm = true) (h : PGs X es t)
    (hn : (assignEach es X.env).length = n := by rfl) (hst : (assignEach es X.env).findIdx? (·.1) = none := by rfl) : PG X (.Tuple es k pos) (gTup K n t) := by
  subst hK
  exact pg_tup hc h hn hst
noncomputable def swp (c : Int × Int) : Int × Int := (c.2, c.1)
/-- the cells under, row and column told the other way round -/
noncomputable def unw (foot : List (Int × Int)) (x y : Int) : List (Int × Int) := foot.map fun s => (y + s.2, x + s.1)
theorem mem_und {rows : List (List Int)} {foot : List (Int × Int)} {x y : Int} {c : Int × Int} : c ∈ und rows foot x y ↔ swp c ∈ unw foot x y ∧ ins rows c = true := by
  unfold und unw
  rw [List.mem_filter, List.mem_map, List.mem_map]
  refine and_congr_left fun _ => ?_
  constructor
  · rintro ⟨s, hs, rfl⟩
    exact ⟨s, hs, rfl⟩
  · rintro ⟨s, hs, e⟩
    refine ⟨s, hs, ?_⟩
    unfold swp at e
    unfold shf
    cases c
    simp only [Prod.mk.injEq] at e ⊢
    exact ⟨e.2, e.1⟩
theorem lt2_rk {a b : Int × Int} (ha : -1000 ≤ a.2 ∧ a.2 ≤ 1000) (hb : -1000 ≤ b.2 ∧ b.2 ≤ 1000) (h : lt2 a b) : rkP a < rkP b := by
  unfold lt2 at h
  unfold rkP
  omega
theorem nd4 : (["dx", "dy", "x", "y"] : List Str).Nodup := by decide +kernel
section
variable {P : Program} {w : World} {K : PySem.W.Frag} {mg : Str → Option Value} {base : Heap} {f : Addr} {fd' : FuncData}
noncomputable def spFst : Sp := fun vs H Q _ => ∃ (wh ct : Addr) (x y h : Int) (wished : List (List Int)) (t : Tool), vs = [.ref wh, .ref ct, .int x, .int y, .int h] ∧ BdAt H wh wished ∧ Rect wished ∧ CtAt H ct t ∧ t.1.length < 64 ∧ (∀ s ∈ t.1, Nr s) ∧ (0 ≤ x ∧ x ≤ 100) ∧ (0 ≤ y ∧ y ≤ 100) ∧ (∃ d ∈ und wished t.1 x y, h ≤ hgt wished d) ∧
  ∀ (tp : Addr) (d : Int × Int) (H' : Hp), IsFst (highs wished h (und wished t.1 x y)) d → Same H H' → H' tp = some (.tup (pr d)) → Q (.ref tp) H'
theorem scFst : FnScope ["wished", "cutter", "x", "y", "height", "under", "cy", "cx"] ["wished", "cutter", "x", "y", "height"] (defScope sFst) := ⟨rfl, rfl, rfl, by decide +kernel, rfl, by decide +kernel, by decide +kernel⟩
theorem ok_fst (T : LawT mg) (hso : mg "sorted" = none) (F : Fun K "_law_first" "_law_first" sFst f fd') : FnOk P w K mg base (CX1 P w) 1 f fd' ["wished", "cutter", "x", "y", "height"] spFst := by
  have nd := scFst.nd
  refine F.ok1 scFst (fun vs H Q E h => ?_) (fun cdv A outer s H vs Q E hr h => ?_)
  · obtain ⟨wh, ct, x, y, h, wished, t, rfl, _⟩ := h
    rfl
  obtain ⟨wh, ct, x, y, h, wished, t, rfl, hw, rect, ⟨ft, hct, ⟨ts, hft, mvf⟩⟩, h64, nr, bx, byy, hex, q⟩ := h
  have tl : ts.length = t.1.length := by rw [mvf.len, List.length_map]
  refine ⟨_, (pss_cons (ps_setC (i := 5) (own := ["dx", "dy"]) (capn := ["x", "y"]) (capI := [2, 3]) nd rfl (Or.inl rfl) rfl rfl (blkC (defScope sFst) rfl rfl (by decide +kernel) rfl (fun y hy => by rcases List.mem_cons.mp hy with rfl | hy; exact ⟨rfl, rfl⟩; rcases List.mem_cons.mp hy with rfl | hy; exact ⟨rfl, rfl⟩; cases hy)) (pi_list (pe_ix ix_tup (pv 1) pe_int (fun _ _ => rfl))) (fun _ _ _ _ _ _ => pg_tupK (K := K) (n := 2) rfl rfl (pgs_cons (pg_name (i := 0) nd4 rfl (Or.inl rfl)) (pgs_cons (pg_name (i := 1) nd4 rfl (Or.inl rfl)) pgs_nil))) (fun _ _ _ _ _ _ => pifs_nil) (fun _ _ _ _ _ _ => (pe_tup (pa_cons (pe_op op_add (pv 3) (pv 1)) (pa_cons (pe_op op_add (pv 2) (pv 0)) pa_nil)))))
    (pss_cons (ps_for own1 rfl (pi_list (pe_callB call_sortP rfl hso bt_sorted (pa_cons (pv 5) pa_nil))) (pg_tup rfl (pgs_cons (pg_name (i := 6) nd rfl (Or.inl rfl)) (pgs_cons (pg_name (i := 7) nd rfl (Or.inl rfl)) pgs_nil))) (pss_one (ps_if (PW.pt (pw_and (pt_chain op_le op_lt pe_int (pv 7) (pe_callB call_len_seq rfl T.len PySem.boot_len (pa_cons (pe_ix ix_list (pv 0) pe_int (fun _ _ => rfl)) pa_nil))) (pw_and (pt_chain op_le op_lt pe_int (pv 6) (pe_callB call_len_seq rfl T.len PySem.boot_len (pa_cons (pv 0) pa_nil))) (pw_and1 (pt_cmpR op_ge (pe_ix ix_list (pe_ix ix_list (pv 0) (pv 6) (fun _ _ => rfl)) (pv 7) (fun _ _ => rfl)) (pv 4) (nomark _)))))) (pss_one (ps_ret (pe_tup (pa_cons (pv 7) (pa_cons (pv 6) pa_nil))))) pss_nil)))
    (pss_one (ps_ret (pe_tup (pa_cons pe_non (pa_cons pe_non pa_nil))))))), ?_⟩
  refine ⟨_, rfl, ct, _, 0, .ref ft, rfl, rfl, SqT.of hct, rfl, ft, rfl, ⟨_, SqL.of hft⟩, fun D hD => ?_⟩
  refine ⟨Wd ts.length (fun i σ acc H2 => ∃ (z1 z2 : Option V) (us : List Addr), σ = [z1, z2, some (.int x), some (.int y)] ∧ acc = us.map V.ref ∧ us.length = i ∧ MvAt H2 us ((unw (t.1.take i) x y).map pr) ∧ Same H H2 ∧ H2 D = some (.lst acc)), wd_0 ⟨none, none, [], rfl, rfl, rfl, by rw [List.take_zero]; exact True.intro, same_upd hD _, upd_same⟩, ?_⟩
  rintro i im σ acc H2 ⟨rfl, hi0, z1, z2, us, rfl, rfl, ul, mv, s2, hD2⟩
  refine lc_ask (K := K) (xs := ts.map V.ref) (SqL.of (s2 _ _ hft)) (by rw [List.length_map]; exact hi0) (fun v hv hi => ?_) (fun hend => ?_)
  · obtain ⟨t1, ht1, rfl⟩ := ref_get hv
    have hi' : i < ts.length := by rw [List.length_map] at hi; exact hi
    have hic : i < t.1.length := by omega
    have ec := List.getElem?_eq_getElem hic
    have gt : H2 t1 = some (.tup (pr t.1[i])) := s2 _ _ (mvf.at_ ht1 (by rw [List.getElem?_map, ec]; rfl))
    generalize t.1[i] = c1 at ec gt
    refine ⟨t1, _, rfl, SqT.of gt, rfl, _, _, rfl, _, _, rfl, rfl, _, rfl, _, rfl, _, _, rfl, rfl, _, rfl, _, rfl, _, _, rfl, rfl, le2, fun p hp => ?_⟩
    have u := same_upd hp (.tup [V.int (y + c1.2), .int (x + c1.1)])
    refine ⟨u _ _ hD2, ?_, wd_next hi' ⟨_, _, us ++ [p], rfl, by rw [List.map_append]; rfl, by rw [List.length_append, ul]; rfl, ?_, same_in (s2.trans u) hD, upd_same⟩⟩
    · rw [List.length_map, ul]
      exact line3 (show i ≤ 1000 by omega) (by decide)
    · have e3 : unw (t.1.take (i + 1)) x y = unw (t.1.take i) x y ++ [(y + c1.2, x + c1.1)] := by
        unfold unw
        rw [take_snoc ec, List.map_append]
        rfl
      rw [e3, List.map_append]
      exact ((mv.same u).snoc upd_same).upd (sbn (u _ _ hD2))
  rw [List.length_map] at hend
  rw [hend, tl, List.take_of_length_le (Nat.le_refl _)] at mv
  have ulu : (unw t.1 x y).length = t.1.length := by unfold unw; rw [List.length_map]
  have bnd : ∀ c ∈ unw t.1 x y, -1000 ≤ c.2 ∧ c.2 ≤ 1000 := fun c hc => by
    unfold unw at hc
    obtain ⟨s1, hs1, rfl⟩ := List.mem_map.mp hc
    have := nr s1 hs1
    unfold Nr at this
    dsimp only
    omega
  refine ⟨_, rfl, D, us, unw t.1 x y, rfl, SqL.of hD2, mv_paired mv, by omega, fun c hc => ?_, fun D4 us4 ds n4 perm pw ul4 rel => ?_⟩
  · have := bnd c hc
    unfold inP
    omega
  have u4 := same_upd n4 (.lst (us4.map V.ref))
  have mv4 := (paired_mv (rel _ (mv_pairedH mv))).same u4
  have hD4 : upd H2 D4 (.lst (us4.map V.ref)) D4 = some (.lst (us4.map V.ref)) := upd_same
  have s4 := s2.trans u4
  generalize upd H2 D4 (.lst (us4.map V.ref)) = H4 at mv4 hD4 s4
  have l4 : us4.length = ds.length := by rw [mv4.len, List.length_map]
  refine ⟨D4, rfl, ⟨_, SqL.of hD4⟩, ?_⟩
  obtain ⟨rs, hw1, ra⟩ := hw.same s4
  have rl := ra.len
  obtain ⟨r0, rr, er⟩ : ∃ r0 rr, wished = r0 :: rr := by
    cases wished with
    | nil => exact absurd rfl rect.1
    | cons r0 rr => exact ⟨r0, rr, rfl⟩
  obtain ⟨a0, ha0, hr0⟩ := ra.at_ (i := 0) (row := r0) (by rw [er]; rfl)
  have hwl : (wished.headD []).length = r0.length := by rw [er]; rfl
  have at0 : atI (rs.map V.ref) 0 = some (.ref a0) := atI_nat (j := 0) (by rw [List.getElem?_map, ha0]; rfl)
  refine for_list (K := K) (a := D4) (xs := us4.map V.ref) (fun j σ Hc => ∃ (g6 g7 : Option V), σ = [some (.ref wh), some (.ref ct), some (.int x), some (.int y), some (.int h), some (.ref D), g6, g7] ∧ Hc = H4 ∧ ∀ e ∈ ds.take j, ¬ (ins wished (swp e) = true ∧ h ≤ hgt wished (swp e)))
    ⟨none, none, rfl, rfl, fun e he => by rw [List.take_zero] at he; cases he⟩ (fun j σ Hc _ ⟨_, _, _, e, _⟩ => by rw [e]; exact SqL.of hD4) ?_ ?_
  · rintro j v σ Hc hv ⟨g6, g7, rfl, rfl, none_⟩
    obtain ⟨u, hu, rfl⟩ := ref_get hv
    have hld : j < ds.length := by have := (List.getElem?_eq_some_iff.mp hu).1; omega
    have ed := List.getElem?_eq_getElem hld
    have gu : Hc u = some (.tup (pr ds[j])) := mv4.at_ hu (by rw [List.getElem?_map, ed]; rfl)
    have dm : ds[j] ∈ ds := List.getElem_mem hld
    have later : ∀ k, j ≤ k → ∀ e, ds[k]? = some e → rkP ds[j] ≤ rkP e := fun k hk e he => by
      obtain ⟨hkl, e2⟩ := List.getElem?_eq_some_iff.mp he
      rcases Nat.lt_or_ge j k with z | z
      · rw [← e2]
        exact List.pairwise_iff_getElem.mp pw j k hld hkl z
      · have : j = k := Nat.le_antisymm hk z
        subst this
        rw [e2]
        exact Int.le_refl _
    generalize ds[j] = e at ed gu dm later
    have skip : ¬ (ins wished (swp e) = true ∧ h ≤ hgt wished (swp e)) → ∃ (g6 g7 : Option V), ([some (.ref wh), some (.ref ct), some (.int x), some (.int y), some (.int h), some (.ref D), some (.int e.1), some (.int e.2)] : St) = [some (.ref wh), some (.ref ct), some (.int x), some (.int y), some (.int h), some (.ref D), g6, g7] ∧ Hc = Hc ∧ ∀ e ∈ ds.take (j + 1), ¬ (ins wished (swp e) = true ∧ h ≤ hgt wished (swp e)) := fun hn => ⟨_, _, rfl, rfl, fun e' he' => by
      rw [take_snoc ed] at he'
      rcases List.mem_append.mp he' with he' | he'
      · exact none_ e' he'
      · rw [List.mem_singleton.mp he']; exact hn⟩
    refine ⟨u, _, rfl, SqT.of gu, rfl, _, _, rfl, _, _, rfl, rfl, ?_⟩
    refine ⟨_, rfl, _, _, rfl, rfl, _, rfl, ?_⟩
    refine ite2 (fun h1 => ?_) (fun h1 => ⟨_, rfl, iteF (iteF (skip fun z => h1 (decide_eq_true (of_decide_eq_true z.1).2.2.1)))⟩)
    refine ⟨_, rfl, wh, _, 0, .ref a0, rfl, rfl, SqL.of hw1, at0, a0, _, rfl, .inl (SqL.of hr0), _, _, rfl, rfl, _, rfl, ?_⟩
    rw [List.length_map]
    refine ite2 (fun h2 => ?_) (fun h2 => iteF (skip fun z => h2 (decide_eq_true (by have := (of_decide_eq_true z.1).2.2.2; unfold swp at this; dsimp only at this; omega))))
    refine ⟨_, rfl, _, _, rfl, rfl, _, rfl, ?_⟩
    refine ite2 (fun h3 => ?_) (fun h3 => ⟨_, rfl, iteF (iteF (skip fun z => h3 (decide_eq_true (of_decide_eq_true z.1).1)))⟩)
    refine ⟨_, rfl, wh, _, rfl, .inl (SqL.of hw1), _, _, rfl, rfl, _, rfl, ?_⟩
    rw [List.length_map]
    refine ite2 (fun h4 => ?_) (fun h4 => iteF (skip fun z => h4 (decide_eq_true (by have := (of_decide_eq_true z.1).2.1; unfold swp at this; dsimp only at this; omega))))
    have hins : ins wished (swp e) = true := by
      have a1 := of_decide_eq_true h1
      have a2 := of_decide_eq_true h2
      have a3 := of_decide_eq_true h3
      have a4 := of_decide_eq_true h4
      unfold swp
      exact decide_eq_true ⟨a3, by dsimp only; omega, a1, by dsimp only; omega⟩
    obtain ⟨i1, j1, row, vv, e1, hrow, hv1, hh⟩ := ins_at hins rect
    obtain ⟨r, hr', hrl⟩ := ra.at_ hrow
    have t1 : e.2 = (j1 : Int) := congrArg Prod.fst e1
    have t2 : e.1 = (i1 : Int) := congrArg Prod.snd e1
    refine ⟨_, rfl, _, rfl, wh, _, e.1, .ref r, rfl, rfl, SqL.of hw1, by rw [t2]; exact atI_nat (by rw [List.getElem?_map, hr']; rfl), _, rfl, r, _, e.2, .int vv, rfl, rfl, SqL.of hrl, by rw [t1]; exact atI_nat (by rw [List.getElem?_map, hv1]; rfl), _, rfl, _, _, rfl, rfl, _, rfl, ?_⟩
    rw [← hh]
    refine ite2 (fun h5 => ?_) (fun h5 => skip fun z => h5 (decide_eq_true z.2))
    have a5 : h ≤ hgt wished (swp e) := of_decide_eq_true h5
    refine ⟨_, rfl, _, rfl, le2, fun tp htp => ?_⟩
    have uf := same_upd htp (.tup [V.int e.2, .int e.1])
    refine q tp (swp e) _ ⟨?_, fun d hd => ?_⟩ (s4.trans uf) upd_same
    · unfold highs
      rw [List.mem_filter]
      exact ⟨mem_und.mpr ⟨perm.mem_iff.mp dm, hins⟩, decide_eq_true a5⟩
    · unfold highs at hd
      rw [List.mem_filter] at hd
      obtain ⟨hd1, hd2⟩ := mem_und.mp hd.1
      have hd3 : h ≤ hgt wished d := of_decide_eq_true hd.2
      have hdm : swp d ∈ ds := perm.mem_iff.mpr hd1
      obtain ⟨k, hk⟩ := List.getElem?_of_mem hdm
      intro lt
      have b1 := bnd _ hd1
      have b2 := bnd _ (perm.mem_iff.mp dm)
      have rk := lt2_rk (a := swp d) (b := e) b1 b2 lt
      rcases Nat.lt_or_ge k j with z | z
      · refine none_ (swp d) ?_ ⟨hd2, hd3⟩
        obtain ⟨kl, ek⟩ := List.getElem?_eq_some_iff.mp hk
        rw [← ek]
        exact List.mem_take_iff_getElem.mpr ⟨k, by omega, rfl⟩
      · have := later k z _ hk
        omega
  · rintro σ Hc ⟨g6, g7, rfl, rfl, none_⟩
    rw [List.length_map, l4, List.take_of_length_le (Nat.le_refl _)] at none_
    obtain ⟨d, hd, hdh⟩ := hex
    obtain ⟨h1, h2⟩ := mem_und.mp hd
    exact absurd ⟨h2, hdh⟩ (none_ (swp d) (perm.mem_iff.mpr h1))
end
end Car

set_option maxHeartbeats 2000000
namespace Car
open PySem L2
noncomputable def col (px d : Nat) : List (Int × Int) := (List.range d).map fun (py : Nat) => ((px : Int), (py : Int))
theorem cols_succ (w d : Nat) : cols (w + 1) d = cols w d ++ col w d := by
  unfold cols col
  rw [List.range_succ, List.flatMap_append]
  simp
theorem col_succ (px d : Nat) : col px (d + 1) = col px d ++ [((px : Int), (d : Int))] := by
  unfold col
  rw [List.range_succ, List.map_append]
  rfl
noncomputable def keepF (foot : List (Int × Int)) (x y : Int) (l : List (Int × Int)) : List (Int × Int) := l.filter fun p => decide (shb x y p ∈ foot)
theorem keepF_app (foot : List (Int × Int)) (x y : Int) (a b : List (Int × Int)) : keepF foot x y (a ++ b) = keepF foot x y a ++ keepF foot x y b := List.filter_append ..
theorem keepF_one {foot : List (Int × Int)} {x y : Int} {p : Int × Int} (h : shb x y p ∈ foot) : keepF foot x y [p] = [p] := by
  unfold keepF
  simp [h]
theorem keepF_no {foot : List (Int × Int)} {x y : Int} {p : Int × Int} (h : ¬ shb x y p ∈ foot) : keepF foot x y [p] = [] := by
  unfold keepF
  simp [h]
section
variable {P : Program} {w : World} {K : PySem.W.Frag} {mg : Str → Option Value} {base : Heap} {f : Addr} {fd' : FuncData}
noncomputable def spDue : Sp := fun vs H Q _ => ∃ (wh sh : Addr) (x y h : Int) (wished : List (List Int)) (ts : List Tool), vs = [.ref wh, .ref sh, .int x, .int y, .int h] ∧ BdAt H wh wished ∧ Rect wished ∧ Small wished ∧ ShAt H sh ts ∧ (∀ t ∈ ts, t.1.length ≤ 26 ∧ t.1.Nodup ∧ ∀ s ∈ t.1, Nr s) ∧ ts.length ≤ 6 ∧ (∀ t ∈ ts, ∀ p ∈ plc wished t.1 x y, ∃ d ∈ und wished t.1 p.1 p.2, h ≤ hgt wished d) ∧
  ∀ (R : Addr) (H' : Hp), H R = none → Same H H' → RsAt H' R (whyF wished wished h x y 0 ts) → Q (.ref R) H'
theorem scDue : FnScope ["wished", "shelf", "x", "y", "height", "due", "number", "px", "py"] ["wished", "shelf", "x", "y", "height"] (defScope sDue) := ⟨rfl, rfl, rfl, by decide +kernel, rfl, by decide +kernel, by decide +kernel⟩
theorem ok_due (T : LawT mg) (FF : Fn P w K mg base "_law_first" 1 ["wished", "cutter", "x", "y", "height"] spFst) (F : Fun K "_law_due" "_law_due" sDue f fd') : FnOk P w K mg base (CX1 P w) 2 f fd' ["wished", "shelf", "x", "y", "height"] spDue := by
  have nd := scDue.nd
  refine F.ok1 scDue (fun vs H Q E h => ?_) (fun cdv A outer s H vs Q E hr h => ?_)
  · obtain ⟨wh, sh, x, y, h, wished, ts, rfl, _⟩ := h
    rfl
  obtain ⟨wh, sh, x, y, h, wished, ts, rfl, hw, rect, small, ⟨cs, hs, cts⟩, feet, many, hex, q⟩ := h
  refine ⟨_, (pss_cons (ps_set (i := 5) nd rfl (Or.inl rfl) (pe_lst pa_nil))
    (pss_cons (ps_for own1 rfl (pi_range1 rfl T.range (pa_cons (pe_callB call_len_seq rfl T.len PySem.boot_len (pa_cons (pv 1) pa_nil)) pa_nil)) (pg_name (i := 6) nd rfl (Or.inl rfl)) (pss_one (ps_for own1 rfl (pi_range1 rfl T.range (pa_cons (pe_callB call_len_seq rfl T.len PySem.boot_len (pa_cons (pe_ix ix_list (pv 0) pe_int (fun _ _ => rfl)) pa_nil)) pa_nil)) (pg_name (i := 7) nd rfl (Or.inl rfl)) (pss_one (ps_for own1 rfl (pi_range1 rfl T.range (pa_cons (pe_callB call_len_seq rfl T.len PySem.boot_len (pa_cons (pv 0) pa_nil)) pa_nil)) (pg_name (i := 8) nd rfl (Or.inl rfl)) (pss_one (ps_if (pt_cmpR (op_inD hr.units65) (pe_tup (pa_cons (pe_op op_sub (pv 2) (pv 7)) (pa_cons (pe_op op_sub (pv 3) (pv 8)) pa_nil))) (pe_ix ix_tup (pe_ix ix_list (pv 1) (pv 6) (fun _ _ => rfl)) pe_int (fun _ _ => rfl)) (by with_unfolding_all rfl)) (pss_one (ps_expr (pe_bm PySem.F.plainAttrs_list PySem.F.slot_list_append PySem.F.type_list_append mt_append (pv 5) (pa_cons (pe_op op_catT (pe_tup (pa_cons (pv 6) (pa_cons (pv 7) (pa_cons (pv 8) pa_nil)))) (pf_call FF hr rfl (pass1 (E := E)) (pa_cons (pv 0) (pa_cons (pe_ix ix_list (pv 1) (pv 6) (fun _ _ => rfl)) (pa_cons (pv 7) (pa_cons (pv 8) (pa_cons (pv 4) pa_nil))))))) pa_nil)))) pss_nil)))))))
    (pss_one (ps_ret (pv 5))))), ?_⟩
  refine ⟨Nat.zero_le _, fun R hR => ?_⟩
  have uR := same_upd hR (.lst [])
  have cl := cts.len
  obtain ⟨r0, rr, er⟩ : ∃ r0 rr, wished = r0 :: rr := by
    cases wished with
    | nil => exact absurd rfl rect.1
    | cons r0 rr => exact ⟨r0, rr, rfl⟩
  have hwl : (wished.headD []).length = r0.length := by rw [er]; rfl
  have r040 : r0.length ≤ 40 := small.2 r0 (by rw [er]; exact List.mem_cons_self)
  have w40 := small.1
  refine ⟨_, rfl, sh, _, rfl, .inl (SqL.of (uR _ _ hs)), _, rfl, (by rw [List.length_map]; omega), (by rw [List.length_map]; omega), ?_⟩
  rw [Int.toNat_natCast, List.length_map]
  refine for_range (n := cs.length) (fun k σ Hc => ∃ (g6 g7 g8 : Option V) (us : List Addr), σ = [some (.ref wh), some (.ref sh), some (.int x), some (.int y), some (.int h), some (.ref R), g6, g7, g8] ∧ Same H Hc ∧ Hc R = some (.lst (us.map V.ref)) ∧ us.length ≤ 1600 * k ∧ MvAt Hc us ((whyF wished wished h x y 0 (ts.take k)).map fun r => r.map V.int))
    ⟨none, none, none, [], rfl, uR, upd_same, Nat.zero_le _, by rw [List.take_zero]; exact True.intro⟩ ?_ ?_
  · rintro k σ Hc hk ⟨g6, g7, g8, us, rfl, sc, hRc, ul, mvc⟩
    have hkt : k < ts.length := by omega
    have et := List.getElem?_eq_getElem hkt
    obtain ⟨t, ht⟩ : ∃ t, ts[k] = t := ⟨_, rfl⟩
    rw [ht] at et
    have htm : t ∈ ts := List.mem_of_getElem? et
    obtain ⟨f26, fnd, fnr⟩ := feet t htm
    have wA : ∀ {G : Hp}, Same H G → ∃ (rs : List Addr) (a0 : Addr), G wh = some (.lst (rs.map V.ref)) ∧ RowsAt G rs wished ∧ atI (rs.map V.ref) 0 = some (.ref a0) ∧ G a0 = some (.lst (r0.map V.int)) := fun s => by
      obtain ⟨rs, hw1, ra⟩ := hw.same s
      obtain ⟨a0, ha0, hr0⟩ := ra.at_ (i := 0) (row := r0) (by rw [er]; rfl)
      exact ⟨rs, a0, hw1, ra, atI_nat (j := 0) (by rw [List.getElem?_map, ha0]; rfl), hr0⟩
    have sA : ∀ {G : Hp}, Same H G → ∃ (c ft : Addr), G sh = some (.lst (cs.map V.ref)) ∧ atI (cs.map V.ref) (0 + (k : Int)) = some (.ref c) ∧ G c = some (.tup [.ref ft, .int t.2]) ∧ FtAt G ft t.1 := fun s => by
      have ec := List.getElem?_eq_getElem hk
      obtain ⟨t', ht', ct⟩ := (cts.same s).at_ ec
      rw [et] at ht'
      cases ht'
      obtain ⟨ft, h1, h2⟩ := ct
      exact ⟨cs[k], ft, s _ _ hs, by rw [Int.zero_add]; exact atI_nat (by rw [List.getElem?_map, ec]; rfl), h1, h2⟩
    obtain ⟨rs, a0, hw1, ra, at0, hr0⟩ := wA sc
    refine ⟨_, rfl, wh, _, 0, .ref a0, rfl, rfl, SqL.of hw1, at0, a0, _, rfl, .inl (SqL.of hr0), _, rfl, (by rw [List.length_map]; omega), (by rw [List.length_map]; omega), ?_⟩
    rw [Int.toNat_natCast, List.length_map]
    refine for_range (n := r0.length) (fun px σ Hd => ∃ (g7 g8 : Option V) (us : List Addr), σ = [some (.ref wh), some (.ref sh), some (.int x), some (.int y), some (.int h), some (.ref R), some (.int (0 + (k : Int))), g7, g8] ∧ Same H Hd ∧ Hd R = some (.lst (us.map V.ref)) ∧ us.length ≤ 1600 * k + 40 * px ∧ MvAt Hd us ((whyF wished wished h x y 0 (ts.take k) ++ (keepF t.1 x y (cols px wished.length)).map (rowF wished wished h k t)).map fun r => r.map V.int))
      ⟨g7, g8, us, rfl, sc, hRc, by omega, by rw [show keepF t.1 x y (cols 0 wished.length) = [] from rfl, List.map_nil, List.append_nil]; exact mvc⟩ ?_ ?_
    · rintro px σ Hd hpx ⟨g7', g8', us1, rfl, sd, hRd, ul1, mvd⟩
      obtain ⟨rs1, _, hw2, ra2, _, _⟩ := wA sd
      have rl2 := ra2.len
      refine ⟨_, rfl, wh, _, rfl, .inl (SqL.of hw2), _, rfl, (by rw [List.length_map]; omega), (by rw [List.length_map]; omega), ?_⟩
      rw [Int.toNat_natCast, List.length_map, rl2]
      refine for_range (n := wished.length) (fun py σ He => ∃ (g8 : Option V) (us : List Addr), σ = [some (.ref wh), some (.ref sh), some (.int x), some (.int y), some (.int h), some (.ref R), some (.int (0 + (k : Int))), some (.int (0 + (px : Int))), g8] ∧ Same H He ∧ He R = some (.lst (us.map V.ref)) ∧ us.length ≤ 1600 * k + 40 * px + py ∧ MvAt He us ((whyF wished wished h x y 0 (ts.take k) ++ (keepF t.1 x y (cols px wished.length ++ col px py)).map (rowF wished wished h k t)).map fun r => r.map V.int))
        ⟨g8', us1, rfl, sd, hRd, by omega, by rw [show col px 0 = [] from rfl, List.append_nil]; exact mvd⟩ ?_ ?_
      · rintro py σ He hpy ⟨g8'', us2, rfl, se, hRe, ul2, mve⟩
        refine ⟨_, rfl, _, rfl, _, _, rfl, rfl, _, rfl, _, rfl, _, _, rfl, rfl, le2, fun t1 h1 => ?_⟩
        have u1 := same_upd h1 (.tup [V.int (x - (0 + (px : Int))), .int (y - (0 + (py : Int)))])
        have s1 := se.trans u1
        obtain ⟨c, ft, e1, e2, e3, ts3, e4, e5⟩ := sA s1
        have hsb : (x - (0 + (px : Int)), y - (0 + (py : Int))) = shb x y ((px : Int), (py : Int)) := by
          unfold shb
          simp only [Int.zero_add]
        refine ⟨_, rfl, _, rfl, sh, _, _, .ref c, rfl, rfl, SqL.of e1, e2, c, _, 0, .ref ft, rfl, rfl, SqT.of e3, rfl, prD (x - (0 + (px : Int)), y - (0 + (py : Int))), _, .tup (SqT.of upd_same) (.cons (.int _) (.cons (.int _) .nil)), .lst (SqL.of e4) (prs_rp e5), prDs_sh _, prD_sh _, _, rfl, ?_⟩
        rw [prD_any, hsb]
        have hR1 := u1 _ _ hRe
        have mv1 := mve.same u1
        generalize upd He t1 (.tup [V.int (x - (0 + (px : Int))), .int (y - (0 + (py : Int)))]) = H1 at u1 s1 e1 e3 e4 e5 hR1 mv1
        refine ite2 (fun c1 => ?_) (fun c1 => ?_)
        · have hmem : shb x y ((px : Int), (py : Int)) ∈ t.1 := of_decide_eq_true c1
          have hpl : ((px : Int), (py : Int)) ∈ plc wished t.1 x y := by
            unfold plc
            rw [List.mem_filter]
            exact ⟨mem_cols.mpr ⟨by show (0 : Int) ≤ px; omega, by show (px : Int) < _; omega, by show (0 : Int) ≤ py; omega, by show (py : Int) < _; omega⟩, decide_eq_true hmem⟩
          refine ⟨_, rfl, .inl ⟨rfl, _, SqL.of hR1⟩, _, rfl, _, rfl, _, rfl, le3, fun t2 h2 => ?_⟩
          have u2 := same_upd h2 (.tup [V.int (0 + (k : Int)), .int (0 + (px : Int)), .int (0 + (py : Int))])
          have s2 := s1.trans u2
          obtain ⟨c', ft', f1, f2, f3, f4⟩ := sA s2
          have hx2 := hex t htm _ hpl
          refine ⟨_, rfl, _, rfl, _, rfl, sh, _, _, .ref c', rfl, rfl, SqL.of f1, f2, _, rfl, _, rfl, _, rfl, wh, c', 0 + (px : Int), 0 + (py : Int), h, wished, t, rfl, hw.same s2, rect, ⟨ft', f3, f4⟩, by omega, fnr, ⟨by omega, by omega⟩, ⟨by omega, by omega⟩, by rw [Int.zero_add, Int.zero_add]; exact hx2, fun tp d H3 isf s3 htp => ?_⟩
          rw [Int.zero_add, Int.zero_add] at isf
          have hR3 := s3 _ _ (u2 _ _ hR1)
          have mv3 := (mv1.same u2).same s3
          refine ⟨t2, tp, _, _, rfl, rfl, SqT.of (s3 _ _ upd_same), SqT.of htp, by simp, (by show 3 + 2 ≤ sizeLine; decide), (fun z => by cases z), fun _ p hp => ?_⟩
          have u4 := same_upd hp (.tup ([V.int (0 + (k : Int)), .int (0 + (px : Int)), .int (0 + (py : Int))] ++ pr d))
          have hR4 := u4 _ _ hR3
          refine ⟨R, _, _, rfl, rfl, hR4, ?_, _, us2 ++ [p], rfl, same_in (s2.trans (s3.trans u4)) hR, by rw [upd_same, List.map_append]; rfl, ?_, ?_⟩
          · rw [List.length_map]
            exact Nat.lt_of_le_of_lt (show us2.length ≤ 20000 by omega) (by decide)
          · rw [List.length_append]
            show us2.length + 1 ≤ _
            omega
          · have el : (whyF wished wished h x y 0 (ts.take k) ++ (keepF t.1 x y (cols px wished.length ++ col px (py + 1))).map (rowF wished wished h k t)).map (fun r => r.map V.int) = (whyF wished wished h x y 0 (ts.take k) ++ (keepF t.1 x y (cols px wished.length ++ col px py)).map (rowF wished wished h k t)).map (fun r => r.map V.int) ++ [(rowF wished wished h k t ((px : Int), (py : Int))).map V.int] := by
              rw [col_succ, ← List.append_assoc, keepF_app, keepF_one hmem, List.map_append (f := rowF wished wished h k t), ← List.append_assoc, List.map_append (l₂ := [((px : Int), (py : Int))].map _)]
              rfl
            rw [el]
            refine MvAt.upd (sbn hR4) ((mv3.same u4).snoc ?_)
            rw [upd_same]
            have ef := isf.f
            rw [rowF, ef]
            simp only [Int.zero_add]
            rfl
        · have hno : ¬ shb x y ((px : Int), (py : Int)) ∈ t.1 := fun z => c1 (decide_eq_true z)
          refine ⟨_, us2, rfl, s1, hR1, by omega, ?_⟩
          rw [col_succ, ← List.append_assoc, keepF_app, keepF_no hno, List.append_nil]
          exact mv1
      · rintro σ He ⟨g8'', us2, rfl, se, hRe, ul2, mve⟩
        refine ⟨_, _, us2, rfl, se, hRe, by omega, ?_⟩
        rw [cols_succ]
        exact mve
    · rintro σ Hd ⟨g7', g8', us1, rfl, sd, hRd, ul1, mvd⟩
      refine ⟨_, _, _, us1, rfl, sd, hRd, by omega, ?_⟩
      rw [take_snoc et, whyF_snoc, List.length_take, Nat.min_eq_left (by omega), Nat.zero_add]
      have : plc wished t.1 x y = keepF t.1 x y (cols r0.length wished.length) := by
        unfold plc keepF
        rw [hwl]
      rw [this]
      exact mvd
  · rintro σ Hc ⟨g6, g7, g8, us, rfl, sc, hRc, ul, mvc⟩
    rw [cl, List.take_of_length_le (Nat.le_refl _)] at mvc
    exact ⟨_, rfl, q R Hc hR sc ⟨us, hRc, mvc⟩⟩
end
end Car

set_option maxHeartbeats 4000000
namespace Car
open PySem L2
theorem shaped_of {d : PyData} {k : Nat} (h : PyData.canLay0 d = true ∧ PyData.depth d ≤ k) (hk : k ≤ 10) : SeqAt.shaped d = true := by
  unfold SeqAt.shaped
  rw [h.1, Bool.true_and]
  exact decide_eq_true (by omega)
theorem eq_false {d : PyData} (h : PyData.canLay0 d = true) : (if true = true then !PyData.eqv d d else PyData.eqv d d) = false := by
  rw [eqv_self d h]
  rfl
noncomputable def rowD (row : List Int) : PyData := .list (row.map .int)
theorem ints_can : ∀ ns : List Int, PyData.canLayAll0 (ns.map .int) = true ∧ PyData.depthAll (ns.map .int) = 0
  | [] => ⟨rfl, rfl⟩
  | n :: ns => by
    obtain ⟨a, b⟩ := ints_can ns
    rw [List.map_cons, PyData.canLayAll0, PyData.depthAll, a, b]
    exact ⟨rfl, rfl⟩
theorem rows_can : ∀ rows : List (List Int), PyData.canLayAll0 (rows.map rowD) = true ∧ PyData.depthAll (rows.map rowD) ≤ 1
  | [] => ⟨rfl, by decide⟩
  | r :: rows => by
    obtain ⟨a, b⟩ := rows_can rows
    obtain ⟨c, d⟩ := ints_can r
    rw [List.map_cons, PyData.canLayAll0, PyData.depthAll, a, rowD, PyData.canLay0, PyData.depth, c, d]
    exact ⟨rfl, by omega⟩
theorem prs_can : ∀ cs : List (Int × Int), PyData.canLayAll0 (cs.map prD) = true ∧ PyData.depthAll (cs.map prD) ≤ 1
  | [] => ⟨rfl, by decide⟩
  | c :: cs => by
    obtain ⟨a, b⟩ := prs_can cs
    rw [List.map_cons, PyData.canLayAll0, PyData.depthAll, a, (prD_can c).1, (prD_can c).2]
    exact ⟨rfl, by omega⟩
noncomputable def toolD (foot : List (Int × Int)) (bite : Int) : PyData := .tuple [.list (foot.map prD), .int bite]
theorem tool_can (foot : List (Int × Int)) (bite : Int) : PyData.canLay0 (toolD foot bite) = true ∧ PyData.depth (toolD foot bite) ≤ 10 := by
  obtain ⟨a, b⟩ := prs_can foot
  rw [toolD, PyData.canLay0, PyData.canLayAll0, PyData.canLay0, a, PyData.depth, PyData.depthAll, PyData.depth]
  refine ⟨rfl, ?_⟩
  show (max ((PyData.depthAll (foot.map prD)) + 1) 0) + 1 ≤ 10
  omega
section
variable {K : PySem.W.Frag} {H : Hp}
theorem ints_rp : ∀ ns : List Int, Rps K H (ns.map V.int) (ns.map .int)
  | [] => .nil
  | n :: ns => .cons (.int n) (ints_rp ns)
theorem rows_rp : ∀ {rs : List Addr} {rows : List (List Int)}, RowsAt H rs rows → Rps K H (rs.map V.ref) (rows.map rowD)
  | [], [], _ => .nil
  | _ :: _, _ :: _, h => .cons (.lst (SqL.of h.1) (ints_rp _)) (rows_rp h.2)
  | [], _ :: _, h => h.elim
  | _ :: _, [], h => h.elim
theorem BdAt.rp {b : Addr} {rows : List (List Int)} (h : BdAt H b rows) : Rp K H (.ref b) (.list (rows.map rowD)) := by
  obtain ⟨rs, a, c⟩ := h
  exact .lst (SqL.of a) (rows_rp c)
theorem FtAt.rp {b : Addr} {cs : List (Int × Int)} (h : FtAt H b cs) : Rp K H (.ref b) (.list (cs.map prD)) := by
  obtain ⟨rs, a, c⟩ := h
  exact .lst (SqL.of a) (prs_rp c)
end

theorem eq_true {d : PyData} (h : PyData.canLay0 d = true) : (if false = true then !PyData.eqv d d else PyData.eqv d d) = true := eqv_self d h
theorem two_can (a b : List (List Int)) : PyData.canLay0 (.list [.list (a.map rowD), .list (b.map rowD)]) = true ∧ PyData.depth (.list [.list (a.map rowD), .list (b.map rowD)]) ≤ 10 := by
  obtain ⟨a1, a2⟩ := rows_can a
  obtain ⟨b1, b2⟩ := rows_can b
  rw [PyData.canLay0, PyData.canLayAll0, PyData.canLayAll0, PyData.canLayAll0, PyData.canLay0, PyData.canLay0, a1, b1, PyData.depth, PyData.depthAll, PyData.depthAll, PyData.depthAll, PyData.depth, PyData.depth]
  exact ⟨rfl, by omega⟩
theorem tools_can : ∀ ts : List Tool, PyData.canLayAll0 (ts.map fun t => toolD t.1 t.2) = true ∧ PyData.depthAll (ts.map fun t => toolD t.1 t.2) ≤ 10
  | [] => ⟨rfl, by decide⟩
  | t :: ts => by
    obtain ⟨a, b⟩ := tools_can ts
    obtain ⟨c, d⟩ := tool_can t.1 t.2
    rw [List.map_cons, PyData.canLayAll0, PyData.depthAll, a, c]
    exact ⟨rfl, by omega⟩
theorem shelf_sh (ts : List Tool) : PyData.canLay0 (.list (ts.map fun t => toolD t.1 t.2)) = true ∧ SeqAt.shaped (.list (ts.map fun t => toolD t.1 t.2)) = true := by
  obtain ⟨a, b⟩ := tools_can ts
  have c : PyData.canLay0 (.list (ts.map fun t => toolD t.1 t.2)) = true := by rw [PyData.canLay0, a]
  refine ⟨c, ?_⟩
  unfold SeqAt.shaped
  rw [c, Bool.true_and, PyData.depth]
  exact decide_eq_true (by omega)
section
variable {K : PySem.W.Frag} {H : Hp}
theorem cts_rp : ∀ {cs : List Addr} {ts : List Tool}, CtsAt H cs ts → Rps K H (cs.map V.ref) (ts.map fun t => toolD t.1 t.2)
  | [], [], _ => .nil
  | _ :: _, _ :: _, h => by
    obtain ⟨⟨ft, a, b⟩, r⟩ := h
    exact .cons (.tup (SqT.of a) (.cons b.rp (.cons (.int _) .nil))) (cts_rp r)
  | [], _ :: _, h => h.elim
  | _ :: _, [], h => h.elim
theorem ShAt.rp {sh : Addr} {ts : List Tool} (h : ShAt H sh ts) : Rp K H (.ref sh) (.list (ts.map fun t => toolD t.1 t.2)) := by
  obtain ⟨cs, a, b⟩ := h
  exact .lst (SqL.of a) (cts_rp b)
end
section
variable {P : Program} {w : World} {K : PySem.W.Frag} {mg : Str → Option Value} {base : Heap} {f : Addr} {fd' : FuncData}
theorem k_int_int : PySem.W.kitOne K (.type "int") (.type "int") = some true := by kernel_rfl
end
theorem lcT_ask {K : PySem.W.Frag} {a : Addr} {xs : List V} {i : Nat} {H : Hp} {A : Prop} {B : V → Hp → Prop} (q : SqT K H a xs) (hi : i ≤ xs.length) (hs : ∀ x, xs[i]? = some x → i < xs.length → B x H) (hd : i = xs.length → A) :
    ((Itt K a).stop i H ∧ A) ∨ ((Itt K a).go i H ∧ ∀ x H', (Itt K a).yld i H x H' → B x H') := by
  by_cases hlt : i < xs.length
  · refine .inr ⟨⟨xs, xs[i], q, by simp [hlt]⟩, fun x H' y => ?_⟩
    obtain ⟨e, y⟩ := y
    subst e
    exact hs x (y xs q) hlt
  · exact .inl ⟨⟨xs, q, by omega⟩, hd (by omega)⟩

noncomputable def rwD (r : List Int) : PyData := .tuple (r.map .int)
theorem rws_can : ∀ rows : List (List Int), PyData.canLayAll0 (rows.map rwD) = true ∧ PyData.depthAll (rows.map rwD) ≤ 1
  | [] => ⟨rfl, by decide⟩
  | r :: rows => by
    obtain ⟨a, b⟩ := rws_can rows
    obtain ⟨c, d⟩ := ints_can r
    rw [List.map_cons, PyData.canLayAll0, PyData.depthAll, a, rwD, PyData.canLay0, PyData.depth, c, d]
    exact ⟨rfl, by omega⟩
theorem rwl_can (rows : List (List Int)) : PyData.canLay0 (.list (rows.map rwD)) = true ∧ PyData.depth (.list (rows.map rwD)) ≤ 10 := by
  obtain ⟨a, b⟩ := rws_can rows
  rw [PyData.canLay0, PyData.depth, a]
  exact ⟨rfl, by omega⟩
theorem mvs_rw {K : PySem.W.Frag} {H : Hp} : ∀ {us : List Addr} {rows : List (List Int)}, MvAt H us (rows.map fun r => r.map V.int) → Rps K H (us.map V.ref) (rows.map rwD)
  | [], [], _ => .nil
  | _ :: _, _ :: _, h => .cons (.tup (SqT.of h.1) (ints_rp _)) (mvs_rw h.2)
  | [], _ :: _, h => h.elim
  | _ :: _, [], h => h.elim
theorem RsAt.rp {K : PySem.W.Frag} {H : Hp} {R : Addr} {rows : List (List Int)} (h : RsAt H R rows) : Rp K H (.ref R) (.list (rows.map rwD)) := by
  obtain ⟨us, a, b⟩ := h
  exact .lst (SqL.of a) (mvs_rw b)
theorem RsAt.same {H H' : Hp} {R : Addr} {rows : List (List Int)} (h : RsAt H R rows) (s : Same H H') : RsAt H' R rows := by
  obtain ⟨us, a, b⟩ := h
  exact ⟨us, s _ _ a, b.same s⟩
theorem emp_ne : (if true = true then !PyData.eqv (.list []) (.list []) else PyData.eqv (.list []) (.list [])) = false := by
  rw [PyData.eqv, PyData.eqvAll]
  rfl
section
variable {P : Program} {w : World} {K : PySem.W.Frag} {mg : Str → Option Value} {base : Heap} {f : Addr} {fd' : FuncData}
/-! ### _law_whole -/
noncomputable def spWhole : Sp := fun vs H Q _ => ∃ (R : Addr) (rows : List (List Int)), vs = [.ref R] ∧ RsAt H R rows ∧ ∀ H', Same H H' → Q (.bl true) H'
theorem scWhole : FnScope ["rows", "row"] ["rows"] (defScope sWhole) := ⟨rfl, rfl, rfl, by decide +kernel, rfl, by decide +kernel, by decide +kernel⟩
theorem ok_whole (T : LawT mg) (F : Fun K "_law_whole" "_law_whole" sWhole f fd') : FnOk P w K mg base (CX1 P w) 1 f fd' ["rows"] spWhole := by
  have nd := scWhole.nd
  refine F.ok1 scWhole (fun vs H Q E h => ?_) (fun cdv A outer s H vs Q E hr h => ?_)
  · obtain ⟨R, rows, rfl, _⟩ := h
    rfl
  obtain ⟨R, rows, rfl, ⟨us, hR, mv⟩, q⟩ := h
  have ul : us.length = rows.length := by rw [mv.len, List.length_map]
  refine ⟨_, (pss_cons (ps_for own1 rfl (pi_list (pv 0)) (pg_name (i := 1) nd rfl (Or.inl rfl)) (pss_cons (ps_if (PW.pt (pw_or (pt_not (pt_truth (pe_callB call_isi rfl T.isin bt_isin (pa_cons (pv 1) (pa_cons (pe_bltn (v := .ty "tuple") rfl T.tuple bt_tuple rfl) pa_nil))) (fun _ => rfl))) (pw_or1 (pt_cmpR (op_neD hr.units) (pe_lc (own := ["part"]) (capn := []) (capI := []) rfl (blk0 rfl (by decide +kernel)) (pi_tup (pv 1)) (fun _ _ _ _ _ _ => pg_name (i := 0) (nd1 "part") rfl (Or.inl rfl)) (fun _ _ _ _ _ _ => (pifs_one (pt_not (pt_truthK (K := K) rfl (pe_callB (call_isiK (K := K) rfl) rfl T.isin bt_isin (pa_cons (pv 0) (pa_cons (pe_bltn (v := .ty "int") rfl T.int bt_int rfl) pa_nil))) (fun _ => rfl))))) (fun _ _ _ _ _ _ => (pv 0))) (pe_lst pa_nil) (nomark _))))) (pss_one (ps_ret pe_bl)) pss_nil)
    (pss_one (ps_if (pt_cmpR (op_neD hr.units) (pe_lc (own := ["part"]) (capn := []) (capI := []) rfl (blk0 rfl (by decide +kernel)) (pi_tup (pv 1)) (fun _ _ _ _ _ _ => pg_name (i := 0) (nd1 "part") rfl (Or.inl rfl)) (fun _ _ _ _ _ _ => (pifs_one (pt_truthK (K := K) rfl (pe_callB (call_isiK (K := K) rfl) rfl T.isin bt_isin (pa_cons (pv 0) (pa_cons (pe_bltn (v := .ty "bool") rfl T.bool bt_bool rfl) pa_nil))) (fun _ => rfl)))) (fun _ _ _ _ _ _ => (pv 0))) (pe_lst pa_nil) (nomark _)) (pss_one (ps_ret pe_bl)) pss_nil))))
    (pss_one (ps_ret pe_bl))), ?_⟩
  refine ⟨_, rfl, R, rfl, ⟨_, SqL.of hR⟩, ?_⟩
  refine for_list (K := K) (a := R) (xs := us.map V.ref) (fun i σ H2 => ∃ x1 : Option V, σ = [some (.ref R), x1] ∧ Same H H2) ⟨none, rfl, Same.refl _⟩ (fun i σ H2 _ ⟨_, _, s⟩ => SqL.of (s _ _ hR)) ?_ ?_
  · rintro i v σ H2 hx ⟨x1, rfl, s2⟩
    obtain ⟨u, hu, rfl⟩ := ref_get hx
    have hi : i < rows.length := by have := (List.getElem?_eq_some_iff.mp hu).1; omega
    have e0 := mv.at_ hu (by rw [List.getElem?_map, List.getElem?_eq_getElem hi]; rfl)
    generalize rows[i] = row at e0
    have e1 := s2 _ _ e0
    refine ⟨_, rfl, _, "tuple", _, true, rfl, .tup e1, k_tuple_tuple, _, rfl, iteF ?_⟩
    refine ⟨_, rfl, u, rfl, ⟨_, SqT.of e1⟩, fun D hD => ?_⟩
    refine ⟨Wd (row.map V.int).length (fun i σ acc H3 => ∃ z : Option V, σ = [z] ∧ acc = [] ∧ Same H2 H3 ∧ H3 D = some (.lst [])), wd_0 ⟨none, rfl, rfl, same_upd hD _, upd_same⟩, ?_⟩
    rintro j jm σ acc H3 ⟨rfl, hj0, z, rfl, rfl, s3, hD3⟩
    refine lcT_ask (K := K) (xs := row.map V.int) (SqT.of (s3 _ _ e1)) hj0 (fun x hx hj => ?_) (fun _ => ?_)
    · obtain ⟨n, rfl⟩ : ∃ n : Int, x = .int n := by
        rw [List.getElem?_map] at hx
        cases h : row[j]? with
        | none => rw [h] at hx; cases hx
        | some p => rw [h] at hx; cases hx; exact ⟨p, rfl⟩
      exact ⟨_, rfl, _, "int", _, true, rfl, .int _, k_int_int, _, rfl, iteF (wd_next hj ⟨_, rfl, rfl, s3, hD3⟩)⟩
    refine ⟨Nat.zero_le _, fun l hl => ?_⟩
    have u4 := same_upd hl (.lst [])
    refine ⟨.list [], .list [], .lst (SqL.of (u4 _ _ hD3)) .nil, .lst (SqL.of upd_same) .nil, by decide +kernel, by decide +kernel, _, rfl, ?_⟩
    rw [emp_ne]
    refine iteF ?_
    have s4 := s3.trans u4
    have e4 := s4 _ _ e1
    refine ⟨_, rfl, u, rfl, ⟨_, SqT.of e4⟩, fun D2 hD2 => ?_⟩
    generalize upd H3 l (.lst []) = H4 at u4 s4 e4 hD2
    refine ⟨Wd (row.map V.int).length (fun i σ acc H5 => ∃ z : Option V, σ = [z] ∧ acc = [] ∧ Same H4 H5 ∧ H5 D2 = some (.lst [])), wd_0 ⟨none, rfl, rfl, same_upd hD2 _, upd_same⟩, ?_⟩
    rintro j jm σ acc H5 ⟨rfl, hj0, z, rfl, rfl, s5, hD5⟩
    refine lcT_ask (K := K) (xs := row.map V.int) (SqT.of (s5 _ _ e4)) hj0 (fun x hx hj => ?_) (fun _ => ?_)
    · obtain ⟨n, rfl⟩ : ∃ n : Int, x = .int n := by
        rw [List.getElem?_map] at hx
        cases h : row[j]? with
        | none => rw [h] at hx; cases hx
        | some p => rw [h] at hx; cases hx; exact ⟨p, rfl⟩
      exact ⟨_, rfl, _, "bool", _, false, rfl, .int _, k_int_bool, _, rfl, iteF (wd_next hj ⟨_, rfl, rfl, s5, hD5⟩)⟩
    refine ⟨Nat.zero_le _, fun l2 hl2 => ?_⟩
    have u6 := same_upd hl2 (.lst [])
    refine ⟨.list [], .list [], .lst (SqL.of (u6 _ _ hD5)) .nil, .lst (SqL.of upd_same) .nil, by decide +kernel, by decide +kernel, _, rfl, ?_⟩
    rw [emp_ne]
    exact iteF ⟨_, rfl, s2.trans (s4.trans (s5.trans u6))⟩
  · rintro σ H2 ⟨x1, rfl, s2⟩
    exact q H2 s2
end
end Car

set_option maxHeartbeats 4000000
namespace Car
open PySem L2
theorem whyF_alike {bed wished : List (List Int)} (A : Alike bed wished) (R : Rect bed) (left x y : Int) : ∀ (ts : List Tool) (n : Nat), whyF bed wished left x y n ts = whyF wished wished left x y n ts
  | [], _ => by rw [whyF, whyF]
  | t :: ts, n => by
    rw [whyF, whyF, whyF_alike A R left x y ts (n + 1)]
    congr 1
    have e1 : plc bed t.1 x y = plc wished t.1 x y := by
      have hR := A.rect R
      have e2 : (bed.headD []).length = (wished.headD []).length := by
        cases hb : bed with
        | nil => exact absurd hb R.1
        | cons r0 rr =>
          cases hw : wished with
          | nil => exact absurd hw hR.1
          | cons s0 ss => exact A.2 0 r0 s0 (by rw [hb]; rfl) (by rw [hw]; rfl)
      unfold plc
      rw [e2, A.1]
    rw [e1]
    refine List.map_congr_left fun p _ => ?_
    unfold rowF
    rw [und_alike A]
theorem plc_ovs {rows : List (List Int)} {foot : List (Int × Int)} {x y : Int} {p : Int × Int} (h : p ∈ plc rows foot x y) : p ∈ ovs rows foot x y := by
  unfold plc at h
  rw [List.mem_filter] at h
  exact mem_ovs.mpr ⟨ins_cols.mpr h.1, _, of_decide_eq_true h.2, shb_shf.mp (shb_shb x y p).symm⟩
theorem RsAt.dr {H : Hp} {Tb : Addr} {ps : Array Value} (ht : H Tb = some (.tbl ps)) {R : Addr} {rows : List (List Int)} (h : RsAt H R rows) : RsAt (L2.drop H Tb) R rows := by
  obtain ⟨us, a, b⟩ := h
  exact ⟨us, dr_at ht a (fun q z => by cases z), b.dr ht⟩
theorem TabAt.upd {H : Hp} {Tb R : Addr} {xs ys : List V} {p : Pos} {q : Str} (h : TabAt Tb p q H) (e : H R = some (.lst xs)) : TabAt Tb p q (upd H R (.lst ys)) := by
  rcases h with z | ⟨c', z, zc⟩
  · exact .inl (by rw [upd_ne (fun y => by rw [← y, z] at e; cases e)]; exact z)
  · exact .inr ⟨c', by rw [upd_ne (fun y => by rw [← y, z] at e; cases e)]; exact z, by rw [upd_ne (fun y => by rw [← y, zc] at e; cases e)]; exact zc⟩
theorem nd5 : (["x", "wished", "left", "y"] : List Str).Nodup := by decide +kernel
theorem hgt_at {K : PySem.W.Frag} {H : Hp} {b : Addr} {rows : List (List Int)} (hb : BdAt H b rows) (R : Rect rows) {c : Int × Int} (hin : ins rows c = true) : ∃ (rs : List Addr) (r : Addr) (row : List Int), H b = some (.lst (rs.map V.ref)) ∧ atI (rs.map V.ref) c.2 = some (.ref r) ∧ H r = some (.lst (row.map V.int)) ∧ atI (row.map V.int) c.1 = some (.int (hgt rows c)) := by
  obtain ⟨rs, h1, ra⟩ := hb
  obtain ⟨i, j, row, v, e1, hrow, hv, hh⟩ := ins_at hin R
  obtain ⟨r, hr', hrl⟩ := ra.at_ hrow
  have t1 : c.1 = (j : Int) := by rw [e1]
  have t2 : c.2 = (i : Int) := by rw [e1]
  exact ⟨rs, r, row, h1, by rw [t2]; exact atI_nat (by rw [List.getElem?_map, hr']; rfl), hrl, by rw [t1, hh]; exact atI_nat (by rw [List.getElem?_map, hv]; rfl)⟩
section
variable {P : Program} {w : World} {K : PySem.W.Frag} {mg : Str → Option Value} {base : Heap} {f : Addr} {fd' : FuncData}
noncomputable def spLaw (Tb : Addr) (K : PySem.W.Frag) : Sp := fun vs H Q _ => ∃ (a : Addr) (ns : List Int), vs = [.ref a] ∧ SqL K H a (ns.map V.int) ∧ ns.length ≤ 63 ∧ H Tb = some (.tbl #[]) ∧ ∀ H', Q (.bl true) H'
theorem scLaw : FnScope ["script", "bed", "wished", "shelf", "turn", "handed", "tools", "left", "cells", "y", "x", "due", "found"] ["script"] (defScope sLaw) := ⟨rfl, rfl, rfl, by decide +kernel, rfl, by decide +kernel, by decide +kernel⟩
theorem ok_law {Tb : Addr} (T : LawT mg) (FC : Fn P w K mg base "_law_case" 4 ["script"] (spCase K)) (FU : Fn P w K mg base "_law_due" 2 ["wished", "shelf", "x", "y", "height"] spDue) (FW : Fn P w K mg base "_law_whole" 1 ["rows"] spWhole) (FH : Fn P w K mg base "had" 3 ["bed", "wished", "shelf"] spHad) (FY : Fn P w K mg base "why_left" 5 ["bed", "wished", "shelf", "x", "y"] (spWhy Tb))
    (F : Fun K "law" "law" sLaw f fd') : FnOk P w K mg base (CX1 P w) 6 f fd' ["script"] (spLaw Tb K) := by
  have nd := scLaw.nd
  refine F.ok1 scLaw (fun vs H Q E h => ?_) (fun cdv A outer s H vs Q E hr h => ?_)
  · obtain ⟨a, ns, rfl, _⟩ := h
    rfl
  obtain ⟨L, ns, rfl, hL, _, hTb, q⟩ := h
  have hr1 : Room 1 _ := hr.mono (by decide)
  have hr2 : Room 2 _ := hr.mono (by decide)
  have hr3 : Room 3 _ := hr.mono (by decide)
  have hr4 : Room 4 _ := hr.mono (by decide)
  refine ⟨_, (pss_cons (ps_asg (pf_call FC hr4 rfl (pass1 (E := E)) (pa_cons (pv 0) pa_nil)) (pg_tup rfl (pgs_cons (pg_name (i := 1) nd rfl (Or.inl rfl)) (pgs_cons (pg_name (i := 2) nd rfl (Or.inr rfl)) (pgs_cons (pg_name (i := 3) nd rfl (Or.inl rfl)) (pgs_cons (pg_name (i := 4) nd rfl (Or.inl rfl)) pgs_nil))))))
    (pss_cons (ps_set (i := 5) nd rfl (Or.inl rfl) (pe_lst (pa_cons (pe_lc (own := ["row"]) (capn := []) (capI := []) rfl (blk0 rfl (by decide +kernel)) (pi_list (pv 1)) (fun _ _ _ _ _ _ => pg_name (i := 0) (nd1 "row") rfl (Or.inl rfl)) (fun _ _ _ _ _ _ => pifs_nil) (fun _ _ _ _ _ _ => (pe_callTy (call_listK (K := K) rfl) rfl T.list bt_list (pa_cons (pv 0) pa_nil)))) (pa_cons (pe_lc (own := ["row"]) (capn := []) (capI := []) rfl (blk0 rfl (by decide +kernel)) (pi_list (pv 2)) (fun _ _ _ _ _ _ => pg_name (i := 0) (nd1 "row") rfl (Or.inl rfl)) (fun _ _ _ _ _ _ => pifs_nil) (fun _ _ _ _ _ _ => (pe_callTy (call_listK (K := K) rfl) rfl T.list bt_list (pa_cons (pv 0) pa_nil)))) pa_nil))))
    (pss_cons (ps_setC (i := 6) (own := ["cutter"]) (capn := []) (capI := []) nd rfl (Or.inl rfl) rfl rfl (blk0 rfl (by decide +kernel)) (pi_list (pv 3)) (fun _ _ _ _ _ _ => pg_name (i := 0) (nd1 "cutter") rfl (Or.inl rfl)) (fun _ _ _ _ _ _ => pifs_nil) (fun _ _ _ _ _ _ => (pe_tup (pa_cons (pe_callTy (call_listK (K := K) rfl) rfl T.list bt_list (pa_cons (pe_ix (ix_tupK (K := K) rfl) (pv 0) pe_int (fun _ _ => rfl)) pa_nil)) (pa_cons (pe_ix (ix_tupK (K := K) rfl) (pv 0) pe_int (fun _ _ => rfl)) pa_nil)))))
    (pss_cons (ps_set (i := 7) nd rfl (Or.inr rfl) (pf_call FH hr3 rfl (pass1 (E := E)) (pa_cons (pe_ix ix_list (pv 5) pe_int (fun _ _ => rfl)) (pa_cons (pe_ix ix_list (pv 5) pe_int (fun _ _ => rfl)) (pa_cons (pv 6) pa_nil)))))
    (pss_cons (ps_set (i := 8) nd rfl (Or.inl rfl) (pe_lst pa_nil))
    (pss_cons (ps_for own1 rfl (pi_range1 rfl T.range (pa_cons (pe_callB call_len_seq rfl T.len PySem.boot_len (pa_cons (pv 1) pa_nil)) pa_nil)) (pg_name (i := 9) nd rfl (Or.inr rfl)) (pss_one (ps_set (i := 8) nd rfl (Or.inl rfl) (pe_op op_cat (pv 8) (pe_lc (own := ["x"]) (capn := ["wished", "left", "y"]) (capI := [2, 7, 9]) rfl (blkC (defScope sLaw) rfl rfl (by decide +kernel) rfl (fun y hy => by rcases List.mem_cons.mp hy with rfl | hy; exact ⟨rfl, rfl⟩; rcases List.mem_cons.mp hy with rfl | hy; exact ⟨rfl, rfl⟩; rcases List.mem_cons.mp hy with rfl | hy; exact ⟨rfl, rfl⟩; cases hy)) (pi_range1 rfl T.range (pa_cons (pe_callB call_len_seq rfl T.len PySem.boot_len (pa_cons (pe_ix ix_list (pv 1) pe_int (fun _ _ => rfl)) pa_nil)) pa_nil)) (fun _ _ _ _ _ _ => pg_name (i := 0) nd5 rfl (Or.inl rfl)) (fun _ _ _ _ _ _ => (pifs_one (pt_cmpR op_gt (pe_ix (ix_listK (K := K) rfl) (pe_ix (ix_listK (K := K) rfl) (pv 2) (pv 3) (fun _ _ => rfl)) (pv 0) (fun _ _ => rfl)) (pe_ix (ix_listK (K := K) rfl) (pe_ix (ix_listK (K := K) rfl) (pv 1) (pv 3) (fun _ _ => rfl)) (pv 0) (fun _ _ => rfl)) (nomark _)))) (fun _ _ _ _ _ _ => (pe_tup (pa_cons (pv 0) (pa_cons (pv 3) pa_nil)))))))))
    (pss_cons (ps_set (i := 4) nd rfl (Or.inl rfl) (pe_op op_mod (pv 4) (pe_callB (call_max2 rfl) rfl T.max bt_max (pa_cons pe_int (pa_cons (pe_callB call_len_seq rfl T.len PySem.boot_len (pa_cons (pv 8) pa_nil)) pa_nil)))))
    (pss_cons (ps_for own1 rfl (pi_list (pe_slice sl_list (pe_op op_cat (pe_slice sl_list (pv 8) (po_some (pv 4)) po_none) (pe_slice sl_list (pv 8) po_none (po_some (pv 4)))) po_none (po_some (pe_ix ix_list (pe_lst (pa_cons pe_int (pa_cons pe_int pa_nil))) (pe_callTy call_int1 rfl T.int bt_int (pa_cons (pe_cmpR op_gt (pe_op op_mul (pe_callB call_len_seq rfl T.len PySem.boot_len (pa_cons (pv 1) pa_nil)) (pe_callB call_len_seq rfl T.len PySem.boot_len (pa_cons (pe_ix ix_list (pv 1) pe_int (fun _ _ => rfl)) pa_nil))) pe_int (nomark _)) pa_nil)) (fun _ _ => rfl))))) (pg_tup rfl (pgs_cons (pg_name (i := 10) nd rfl (Or.inl rfl)) (pgs_cons (pg_name (i := 9) nd rfl (Or.inr rfl)) pgs_nil))) (pss_cons (ps_set (i := 11) nd rfl (Or.inl rfl) (pf_call FU hr2 rfl (pass1 (E := E)) (pa_cons (pv 2) (pa_cons (pv 3) (pa_cons (pv 10) (pa_cons (pv 9) (pa_cons (pe_ix ix_list (pe_ix ix_list (pv 7) (pv 9) (fun _ _ => rfl)) (pv 10) (fun _ _ => rfl)) pa_nil)))))))
    (pss_cons (ps_set (i := 12) nd rfl (Or.inl rfl) (pf_call FY hr rfl (pass1 (E := E)) (pa_cons (pe_ix ix_list (pv 5) pe_int (fun _ _ => rfl)) (pa_cons (pe_ix ix_list (pv 5) pe_int (fun _ _ => rfl)) (pa_cons (pv 6) (pa_cons (pv 10) (pa_cons (pv 9) pa_nil)))))))
    (pss_cons (ps_if (PW.pt (pw_or (pt_not (pt_truth (pe_callB call_isi rfl T.isin bt_isin (pa_cons (pv 12) (pa_cons (pe_bltn (v := .ty "list") rfl T.list bt_list rfl) pa_nil))) (fun _ => rfl))) (pw_or (pt_cmpR (op_neD hr.units) (pv 12) (pv 11) (nomark _)) (pw_or1 (pt_not (pt_truth (pf_call FW hr1 rfl (pass1 (E := E)) (pa_cons (pv 12) pa_nil)) (fun _ => rfl))))))) (pss_one (ps_ret pe_bl)) pss_nil)
    (pss_cons (ps_expr (pe_bm0 PySem.F.plainAttrs_list PySem.F.slot_list_clear PySem.F.type_list_clear mt_clear (pv 12)))
    (pss_one (ps_if (PW.pt (pw_and (pt_cmpR (op_eqD hr.units) (pe_tup (pa_cons (pv 10) (pa_cons (pv 9) pa_nil))) (pe_ix ix_list (pv 8) (pv 4) (fun _ _ => rfl)) (nomark _)) (pw_and1 (pt_cmpR (op_neD hr.units) (pf_call FY hr rfl (pass1 (E := E)) (pa_cons (pe_ix ix_list (pv 5) pe_int (fun _ _ => rfl)) (pa_cons (pe_ix ix_list (pv 5) pe_int (fun _ _ => rfl)) (pa_cons (pv 6) (pa_cons (pv 10) (pa_cons (pv 9) pa_nil)))))) (pv 11) (nomark _))))) (pss_one (ps_ret pe_bl)) pss_nil)))))))
    (pss_one (ps_ret (pe_and (pe_cmpR (op_eqD hr.units) (pv 5) (pe_lst (pa_cons (pv 1) (pa_cons (pv 2) pa_nil))) (nomark _)) (pe_one (pe_cmpR (op_eqD hr.units) (pv 6) (pv 3) (nomark _)))))))))))))), ?_⟩
  refine ⟨_, rfl, L, ns, rfl, hL, fun t b wh sh turn bed wished ts H1 s1 ht hb hwh hsh rect al small feet tl6 tn0 => ?_⟩
  refine ⟨t, _, rfl, SqT.of ht, rfl, _, _, rfl, _, _, rfl, _, _, rfl, _, _, rfl, rfl, ?_⟩
  have smw : wished.length ≤ 1000 := by rw [← al.1]; have := small.1; omega
  have smb : bed.length ≤ 1000 := by have := small.1; omega
  have hTb1 := s1 _ _ hTb
  clear ht hL
  -- handed
  obtain ⟨rs, hb1, ra⟩ := id hb
  refine ⟨_, rfl, b, rfl, ⟨_, SqL.of hb1⟩, fun D1 hD1 => ?_⟩
  refine lc_rows (K := K) hb1 ra smb (fun r row H2 R hr' k => ⟨_, rfl, r, _, rfl, .inl (SqL.of hr'), k⟩) hD1 (fun hs1 H2 s2 hd1 rh1 _ _ _ => ?_)
  have hbd1 : BdAt H2 D1 bed := ⟨hs1, hd1, rh1⟩
  have hwh2 := hwh.same s2
  obtain ⟨ws, hw1, rw1⟩ := id hwh2
  refine ⟨_, rfl, wh, rfl, ⟨_, SqL.of hw1⟩, fun D2 hD2 => ?_⟩
  refine lc_rows (K := K) hw1 rw1 smw (fun r row H3 R hr' k => ⟨_, rfl, r, _, rfl, .inl (SqL.of hr'), k⟩) hD2 (fun hs2 H3 s3 hd2 rh2 _ _ _ => ?_)
  have hbd2 : BdAt H3 D2 wished := ⟨hs2, hd2, rh2⟩
  refine ⟨le2, fun hn hhn => ?_⟩
  have u4 := same_upd hhn (.lst [V.ref D1, .ref D2])
  have eh : upd H3 hn (.lst [V.ref D1, .ref D2]) hn = some (.lst [V.ref D1, .ref D2]) := upd_same
  have B1 := (hbd1.same s3).same u4
  have B2 := hbd2.same u4
  have B3 := ((hb.same s2).same s3).same u4
  have B4 := (hwh2.same s3).same u4
  have S3 := ((hsh.same s2).same s3).same u4
  have hTb4 := u4 _ _ (s3 _ _ (s2 _ _ hTb1))
  generalize upd H3 hn (.lst [V.ref D1, .ref D2]) = H4 at eh B1 B2 B3 B4 S3 hTb4
  clear u4 hbd1 hbd2 hb hwh hsh hwh2 rh1 rh2 hd1 hd2 hw1 rw1 hb1 ra s2 s3 hhn hD1 hD2
  -- tools
  obtain ⟨cts, hs1', hs2'⟩ := id S3
  have ctl := hs2'.len
  refine ⟨_, rfl, sh, rfl, ⟨_, SqL.of hs1'⟩, fun D hD => ?_⟩
  refine ⟨Wd ts.length (fun i σ acc H5 => ∃ (z : Option V) (cs2 : List Addr), σ = [z] ∧ acc = cs2.map V.ref ∧ CtsO H5 D cs2 (ts.take i) ∧ Same H4 H5 ∧ H5 D = some (.lst acc)), wd_0 ⟨none, [], rfl, rfl, by rw [List.take_zero]; exact True.intro, same_upd hD _, upd_same⟩, ?_⟩
  rintro i im σ acc H5 ⟨rfl, hi0, z, cs2, rfl, rfl, co, s5, hD5⟩
  refine lc_ask (K := K) (xs := cts.map V.ref) (SqL.of (s5 _ _ hs1')) (by rw [List.length_map, ctl]; exact hi0) (fun x hx hi => ?_) (fun hend => ?_)
  · obtain ⟨ct, hct, rfl⟩ := ref_get hx
    have hi' : i < ts.length := by rw [List.length_map, ctl] at hi; exact hi
    obtain ⟨⟨foot, bite⟩, et, ⟨ft, hc1, ⟨fts, hf1, hf2⟩⟩⟩ := hs2'.at_ hct
    have col := co.cts.len
    rw [List.length_take] at col
    have gc := s5 _ _ hc1
    have gf := s5 _ _ hf1
    refine ⟨_, rfl, ct, _, 0, .ref ft, rfl, rfl, SqT.of gc, rfl, ft, _, rfl, .inl (SqL.of gf), fun p hp => ?_⟩
    have u1 := same_upd hp (.lst (fts.map V.ref))
    refine ⟨_, rfl, ct, _, 1, .int bite, rfl, rfl, SqT.of (u1 _ _ gc), rfl, le2, fun tt htt => ?_⟩
    have u2 := same_upd htt (.tup [V.ref p, .int bite])
    have uu := u1.trans u2
    have np := ne_new hD5 hp
    have hD6 := uu _ _ hD5
    refine ⟨hD6, (by rw [List.length_map]; exact line3 (show cs2.length ≤ 1000 by omega) (by decide)), wd_next hi' ⟨_, cs2 ++ [tt], rfl, by rw [List.map_append]; rfl, ?_, same_in (s5.trans uu) hD, upd_same⟩⟩
    rw [List.take_add_one, et]
    have co8 := CtsO.snoc (c := tt) (t := (foot, bite)) ⟨p, np, upd_same, ⟨fts, u2 _ _ upd_same, (hf2.same s5).same uu⟩⟩ (co.keep (fun x o _ e => uu x o e) ⟨_, hD5⟩)
    exact co8.keep (fun x o n e => by rw [upd_ne n]; exact e) ⟨_, hD6⟩
  rw [List.length_map, ctl] at hend
  rw [hend, List.take_of_length_le (Nat.le_refl _)] at co
  have S5 : ShAt H5 D ts := ⟨cs2, hD5, co.cts⟩
  have eh5 := s5 _ _ eh
  have C1 := B1.same s5
  have C2 := B2.same s5
  have C3 := B3.same s5
  have C4 := B4.same s5
  have S6 := S3.same s5
  have hTb5 := s5 _ _ hTb4
  clear co hD5 S3 hs1' hs2' ctl B1 B2 B3 B4 eh s5 hi0 hD hTb4
  -- left
  refine ⟨_, rfl, hn, _, 0, .ref D1, rfl, rfl, SqL.of eh5, rfl, _, rfl, hn, _, 1, .ref D2, rfl, rfl, SqL.of eh5, rfl, _, rfl, D1, D2, D, bed, wished, ts, rfl, C1, C2, S5, rect, al, small, (fun t ht => Nat.le_trans (feet t ht).1 (by decide)), fun fo fs H6 nfo s6 hfo rfo _ _ _ => ?_⟩
  have hfb : BdAt H6 fo (hadF bed wished ts) := ⟨fs, hfo, rfo⟩
  have alh : Alike bed (hadF bed wished ts) := cuts_alike _ _
  refine ⟨Nat.zero_le _, fun c0 hc0 => ?_⟩
  have u7 := same_upd hc0 (.lst [])
  have s7 := s6.trans u7
  have F1 := C1.same s7
  have F2 := C2.same s7
  have F3 := C3.same s7
  have F4 := C4.same s7
  have G1 := S5.same s7
  have G2 := S6.same s7
  have FL := hfb.same u7
  have eh7 := s7 _ _ eh5
  have hTb7 := s7 _ _ hTb5
  have ec0 : upd H6 c0 (.lst []) c0 = some (.lst (([] : List Addr).map V.ref)) := upd_same
  generalize upd H6 c0 (.lst []) = H7 at F1 F2 F3 F4 G1 G2 FL eh7 hTb7 ec0
  clear C1 C2 C3 C4 S5 S6 hfb hfo rfo s6 s7 u7 eh5 hTb5 hc0 nfo
  -- cells
  obtain ⟨r0, rr, er⟩ : ∃ r0 rr, bed = r0 :: rr := by
    cases bed with
    | nil => exact absurd rfl rect.1
    | cons r0 rr => exact ⟨r0, rr, rfl⟩
  have hwl : (bed.headD []).length = r0.length := by rw [er]; rfl
  have r040 : r0.length ≤ 40 := small.2 r0 (by rw [er]; exact List.mem_cons_self)
  have b40 := small.1
  have bA : ∀ {G : Hp}, BdAt G b bed → ∃ (rs : List Addr) (a0 : Addr), G b = some (.lst (rs.map V.ref)) ∧ rs.length = bed.length ∧ atI (rs.map V.ref) 0 = some (.ref a0) ∧ G a0 = some (.lst (r0.map V.int)) := fun h => by
    obtain ⟨rs, hw1, ra⟩ := h
    obtain ⟨a0, ha0, hr0⟩ := ra.at_ (i := 0) (row := r0) (by rw [er]; rfl)
    exact ⟨rs, a0, hw1, ra.len, atI_nat (j := 0) (by rw [List.getElem?_map, ha0]; rfl), hr0⟩
  obtain ⟨rsb, _, hbb, rbl, _, _⟩ := bA F3
  refine ⟨_, rfl, b, _, rfl, .inl (SqL.of hbb), _, rfl, (by rw [List.length_map]; omega), (by rw [List.length_map]; omega), ?_⟩
  rw [Int.toNat_natCast, List.length_map, rbl]
  refine for_range (n := bed.length) (fun i σ Hc => ∃ (cl : Addr) (cs : List (Int × Int)) (g9 : Option V), σ = [some (.ref L), some (.ref b), some (.ref wh), some (.ref sh), some (.int turn), some (.ref hn), some (.ref D), some (.ref fo), some (.ref cl), g9, none, none, none] ∧ Same H7 Hc ∧ FtAt Hc cl cs ∧ cs.length ≤ 40 * i ∧ ∀ c ∈ cs, ins bed c = true)
    ⟨c0, [], none, rfl, Same.refl _, ⟨[], ec0, True.intro⟩, Nat.zero_le _, fun c hc => by cases hc⟩ ?_ ?_
  · rintro i σ Hc hi ⟨cl, cs, g9, rfl, sc, ⟨us, hcl, mvc⟩, cl40, hin⟩
    obtain ⟨rs1, a0, hb1, _, at0, ha0⟩ := bA (F3.same sc)
    refine ⟨_, rfl, _, rfl, b, _, 0, .ref a0, rfl, rfl, SqL.of hb1, at0, a0, _, rfl, .inl (SqL.of ha0), _, rfl, (by rw [List.length_map]; omega), (by rw [List.length_map]; omega), fun D3 hD3 => ?_⟩
    rw [Int.toNat_natCast, List.length_map]
    refine ⟨Wd r0.length (fun j σ acc Hd => ∃ (z : Option V) (us2 : List Addr) (cs2 : List (Int × Int)), σ = [z, some (.ref wh), some (.ref fo), some (.int (0 + (i : Int)))] ∧ acc = us2.map V.ref ∧ MvAt Hd us2 (cs2.map pr) ∧ cs2.length ≤ j ∧ (∀ c ∈ cs2, ins bed c = true) ∧ Same Hc Hd ∧ Hd D3 = some (.lst acc)), wd_0 ⟨none, [], [], rfl, rfl, True.intro, Nat.le_refl _, (fun c hc => by cases hc), same_upd hD3 _, upd_same⟩, ?_⟩
    rintro j jm σ acc Hd ⟨rfl, hj0, z, us2, cs2, rfl, rfl, mv2, l2, in2, sd, hDd⟩
    refine rg_ask hj0 (fun hj => ?_) (fun hend => ?_)
    · have hcin : ins bed ((0 + (j : Int)), (0 + (i : Int))) = true := by
        refine decide_eq_true ⟨by dsimp only; omega, by dsimp only; omega, by dsimp only; omega, by dsimp only; omega⟩
      have s7d := sc.trans sd
      obtain ⟨q1, q2, q3, e1, e2, e3, e4⟩ := hgt_at (K := K) (FL.same s7d) (alh.rect rect) (c := ((0 + (j : Int)), (0 + (i : Int)))) (by rw [← alh.ins]; exact hcin)
      obtain ⟨w1, w2, w3, f1, f2, f3, f4⟩ := hgt_at (K := K) (F4.same s7d) (al.rect rect) (c := ((0 + (j : Int)), (0 + (i : Int)))) (by rw [← al.ins]; exact hcin)
      refine ⟨_, rfl, _, rfl, fo, _, _, .ref q2, rfl, rfl, SqL.of e1, e2, _, rfl, q2, _, _, _, rfl, rfl, SqL.of e3, e4, _, rfl, _, rfl, wh, _, _, .ref w2, rfl, rfl, SqL.of f1, f2, _, rfl, w2, _, _, _, rfl, rfl, SqL.of f3, f4, _, _, rfl, rfl, _, rfl, ?_⟩
      refine ite2 (fun _ => ?_) (fun _ => wd_next hj ⟨_, us2, cs2, rfl, rfl, mv2, by omega, in2, sd, hDd⟩)
      refine ⟨_, rfl, _, rfl, le2, fun t5 h5 => ?_⟩
      have u5 := same_upd h5 (.tup [V.int (0 + (j : Int)), .int (0 + (i : Int))])
      have tl2 : us2.length = cs2.length := by rw [mv2.len, List.length_map]
      refine ⟨u5 _ _ hDd, ?_, wd_next hj ⟨_, us2 ++ [t5], cs2 ++ [((0 + (j : Int)), (0 + (i : Int)))], rfl, by rw [List.map_append]; rfl, ?_, by rw [List.length_append]; show cs2.length + 1 ≤ _; omega, fun c hc => ?_, same_in (sd.trans u5) hD3, upd_same⟩⟩
      · rw [List.length_map]
        exact line3 (show us2.length ≤ 1000 by omega) (by decide)
      · rw [List.map_append]
        exact ((mv2.same u5).snoc upd_same).upd (sbn (u5 _ _ hDd))
      · rcases List.mem_append.mp hc with hc | hc
        · exact in2 c hc
        · rw [List.mem_singleton.mp hc]; exact hcin
    · have tl1 : us.length = cs.length := by rw [mvc.len, List.length_map]
      have tl2 : us2.length = cs2.length := by rw [mv2.len, List.length_map]
      refine ⟨cl, D3, _, _, rfl, rfl, sd _ _ hcl, hDd, ?_, fun p5 h5 => ?_⟩
      · rw [List.length_map, List.length_map]
        exact Nat.le_of_lt (Nat.lt_of_le_of_lt (show us.length + us2.length ≤ 2000 by omega) (by decide))
      have u5 := same_upd h5 (.lst (us.map V.ref ++ us2.map V.ref))
      have s5 := sd.trans u5
      refine ⟨p5, cs ++ cs2, _, rfl, sc.trans s5, ⟨us ++ us2, by rw [upd_same, List.map_append], ?_⟩, ?_, fun c hc => ?_⟩
      · rw [List.map_append]
        exact (mvc.same s5).app (mv2.same u5)
      · rw [List.length_append]
        omega
      · rcases List.mem_append.mp hc with hc | hc
        · exact hin c hc
        · exact in2 c hc
  rintro σ H8 ⟨cl, cs, g9, rfl, s8, ⟨us, hcl, mvc⟩, cl40, hin⟩
  have tl1 : us.length = cs.length := by rw [mvc.len, List.length_map]
  have c1600 : cs.length ≤ 1600 := by omega
  have K1 := F1.same s8
  have K2 := F2.same s8
  have K3 := F3.same s8
  have K4 := F4.same s8
  have M1 := G1.same s8
  have M2 := G2.same s8
  have KL := FL.same s8
  have eh8 := s8 _ _ eh7
  have hTb8 := s8 _ _ hTb7
  clear F1 F2 F3 F4 G1 G2 FL eh7 hTb7 s8 ec0 hbb
  -- turn
  refine ⟨_, rfl, _, rfl, cl, _, rfl, .inl (SqL.of hcl), _, _, rfl, ?_⟩
  rw [List.length_map]
  obtain ⟨mn, hmn⟩ : ∃ mn : Int, (if (us.length : Int) > 1 then (us.length : Int) else 1) = mn := ⟨_, rfl⟩
  rw [hmn]
  have mn1 : 1 ≤ mn ∧ (us ≠ [] → mn = (us.length : Int)) := by
    rw [← hmn]
    constructor
    · split <;> omega
    · intro h
      have := List.length_pos_iff.mpr h
      split <;> omega
  refine ⟨_, _, rfl, rfl, (by show (0 : Int) < mn; omega), ?_⟩
  have mt := mod_lt turn (show 0 < mn by omega)
  obtain ⟨k, hk⟩ : ∃ k : Nat, turn % mn = (k : Int) := ⟨(turn % mn).toNat, by omega⟩
  have hku : us ≠ [] → k < us.length := fun h => by have := mn1.2 h; omega
  obtain ⟨tv, htv⟩ : ∃ tv : V, (fun i j : Int => V.int (i % j)) turn mn = tv := ⟨_, rfl⟩
  have htv' : tv = V.int (k : Int) := by rw [← htv, ← hk]
  rw [htv, htv']
  clear htv htv' tv
  -- the loop's list
  refine ⟨_, rfl, _, rfl, (k : Int), rfl, cl, _, rfl, SqL.of hcl, fun p1 hp1 => ?_⟩
  rw [cut_drop]
  have v1 := same_upd hp1 (.lst ((us.drop k).map V.ref))
  refine ⟨_, rfl, _, rfl, (k : Int), rfl, cl, _, rfl, SqL.of (v1 _ _ hcl), fun p2 hp2 => ?_⟩
  rw [cut_take]
  have v2 := same_upd hp2 (.lst ((us.take k).map V.ref))
  refine ⟨p1, p2, _, _, rfl, rfl, v2 _ _ upd_same, upd_same, ?_, fun p3 hp3 => ?_⟩
  · rw [List.length_map, List.length_map, List.length_drop, List.length_take]
    exact Nat.le_of_lt (Nat.lt_of_le_of_lt (show _ ≤ 4000 by omega) (by decide))
  have v3 := same_upd hp3 (.lst ((us.drop k).map V.ref ++ (us.take k).map V.ref))
  have e3 : upd (upd (upd H8 p1 (.lst ((us.drop k).map V.ref))) p2 (.lst ((us.take k).map V.ref))) p3 (.lst ((us.drop k).map V.ref ++ (us.take k).map V.ref)) p3 = some (.lst ((us.drop k ++ us.take k).map V.ref)) := by rw [upd_same, List.map_append]
  have v13 := v1.trans (v2.trans v3)
  generalize upd (upd (upd H8 p1 (.lst ((us.drop k).map V.ref))) p2 (.lst ((us.take k).map V.ref))) p3 (.lst ((us.drop k).map V.ref ++ (us.take k).map V.ref)) = H9 at v13 e3
  clear v1 v2 v3 hp1 hp2 hp3
  refine ⟨le2, fun l4 h4 => ?_⟩
  have v4 := same_upd h4 (.lst [V.int 6, .int 3])
  have v14 := v13.trans v4
  obtain ⟨rs5, a5, hb5, rl5, at5, ha5⟩ := bA (K3.same v14)
  refine ⟨_, rfl, b, _, rfl, .inl (SqL.of hb5), _, rfl, b, _, 0, .ref a5, rfl, rfl, SqL.of hb5, at5, a5, _, rfl, .inl (SqL.of ha5), _, _, rfl, rfl, ?_, _, _, rfl, rfl, .inr ⟨_, rfl, ?_⟩⟩
  · rw [List.length_map, List.length_map]
    exact .inl ⟨by omega, by omega⟩
  obtain ⟨kk, hkk⟩ : ∃ kk : Nat, ∀ c : Bool, True ∧ True := ⟨0, fun _ => ⟨trivial, trivial⟩⟩
  clear hkk kk
  obtain ⟨cc, hcc⟩ : ∃ cc : Bool, decide ((36 : Int) < ((rs5.map V.ref).length : Int) * ((r0.map V.int).length : Int)) = cc := ⟨_, rfl⟩
  rw [hcc]
  obtain ⟨kk, hat⟩ : ∃ kk : Nat, atI [V.int 6, V.int 3] (if cc = true then 1 else 0) = some (.int (kk : Int)) := by
    cases cc
    · exact ⟨6, rfl⟩
    · exact ⟨3, rfl⟩
  refine ⟨l4, _, _, .int (kk : Int), rfl, rfl, SqL.of upd_same, hat, (kk : Int), rfl, p3, _, rfl, SqL.of (v4 _ _ e3), fun p5 hp5 => ?_⟩
  rw [cut_take]
  have v5 := same_upd hp5 (.lst (((us.drop k ++ us.take k).take kk).map V.ref))
  have e5 : upd (upd H9 l4 (.lst [V.int 6, .int 3])) p5 (.lst (((us.drop k ++ us.take k).take kk).map V.ref)) p5 = some (.lst (((us.drop k ++ us.take k).take kk).map V.ref)) := upd_same
  have v15 := v14.trans v5
  generalize upd (upd H9 l4 (.lst [V.int 6, .int 3])) p5 (.lst (((us.drop k ++ us.take k).take kk).map V.ref)) = HA at v15 e5
  clear v4 v14 v13 e3 hp5 h4 v5 hb5 at5 ha5
  have sub : ∀ u ∈ (us.drop k ++ us.take k).take kk, u ∈ us := fun u hu => by
    rcases List.mem_append.mp (List.mem_of_mem_take hu) with z | z
    · exact List.mem_of_mem_drop z
    · exact List.mem_of_mem_take z
  have N1 := (K1.same v15).dr (v15 _ _ hTb8)
  have N2 := (K2.same v15).dr (v15 _ _ hTb8)
  have N3 := (K3.same v15).dr (v15 _ _ hTb8)
  have N4 := (K4.same v15).dr (v15 _ _ hTb8)
  have O1 := (M1.same v15).dr (v15 _ _ hTb8)
  have O2 := (M2.same v15).dr (v15 _ _ hTb8)
  have NL := (KL.same v15).dr (v15 _ _ hTb8)
  have NH := dr_at (v15 _ _ hTb8) (v15 _ _ eh8) (fun q z => by cases z)
  have NC := dr_at (v15 _ _ hTb8) (v15 _ _ hcl) (fun q z => by cases z)
  have NM := (mvc.same v15).dr (v15 _ _ hTb8)
  have NP := dr_at (v15 _ _ hTb8) e5 (fun q z => by cases z)
  have hTbA := v15 _ _ hTb8
  clear K1 K2 K3 K4 M1 M2 KL eh8 hTb8 hcl mvc v15 e5
  refine ⟨p5, rfl, ⟨_, SqL.of (drop_le _ _ NP)⟩, ?_⟩
  refine for_list (K := K) (a := p5) (xs := ((us.drop k ++ us.take k).take kk).map V.ref) (fun i σ Hc => ∃ (g9 g10 g11 g12 : Option V), σ = [some (.ref L), some (.ref b), some (.ref wh), some (.ref sh), some (.int (k : Int)), some (.ref hn), some (.ref D), some (.ref fo), some (.ref cl), g9, g10, g11, g12] ∧ Same (L2.drop HA Tb) Hc ∧ TabAt Tb lpos qlam Hc)
    ⟨_, _, _, _, rfl, drop_le, .inl hTbA⟩ (fun i σ Hc _ ⟨_, _, _, _, _, s, _⟩ => SqL.of (s _ _ NP)) ?_ ?_
  · rintro i v σ Hc hv ⟨g9', g10, g11, g12, rfl, sc, tabc⟩
    obtain ⟨u, hu, rfl⟩ := ref_get hv
    have hum : u ∈ us := sub u (List.mem_of_getElem? hu)
    obtain ⟨m, hm⟩ := List.getElem?_of_mem hum
    have hmc : m < cs.length := by have := (List.getElem?_eq_some_iff.mp hm).1; omega
    have gu0 := NM.at_ hm (by rw [List.getElem?_map, List.getElem?_eq_getElem hmc]; rfl)
    have cin := hin _ (List.getElem_mem hmc)
    generalize cs[m] = c at gu0 cin
    have gu := sc _ _ gu0
    have hune : us ≠ [] := fun z => by rw [z] at hum; cases hum
    obtain ⟨x, y⟩ := c
    refine ⟨u, _, rfl, SqT.of gu, rfl, _, _, rfl, _, _, rfl, rfl, ?_⟩
    obtain ⟨q1, q2, q3, e1, e2, e3, e4⟩ := hgt_at (K := K) (NL.same sc) (alh.rect rect) (c := (x, y)) (by rw [← alh.ins]; exact cin)
    obtain ⟨left, hleft⟩ : ∃ left, hgt (hadF bed wished ts) (x, y) = left := ⟨_, rfl⟩
    rw [hleft] at e4
    have hsm : Small wished := by
      refine ⟨by rw [← al.1]; exact small.1, fun r hr => ?_⟩
      obtain ⟨j, hj⟩ := List.getElem?_of_mem hr
      have hjb : j < bed.length := by rw [al.1]; exact (List.getElem?_eq_some_iff.mp hj).1
      rw [← al.2 j _ _ (List.getElem?_eq_getElem hjb) hj]
      exact small.2 _ (List.getElem_mem hjb)
    have hex : ∀ t ∈ ts, ∀ p ∈ plc wished t.1 x y, ∃ d ∈ und wished t.1 p.1 p.2, left ≤ hgt wished d := fun t ht p hp => by
      have hp' : p ∈ ovs bed t.1 x y := by
        have := plc_ovs hp
        rw [mem_ovs] at this ⊢
        exact ⟨by rw [al.ins]; exact this.1, this.2⟩
      have := high_some rect al (wished := wished) (ts := ts) cin ht hp'
      rw [hleft, und_alike al] at this
      exact this
    refine ⟨_, rfl, _, rfl, _, rfl, _, rfl, _, rfl, _, rfl, fo, _, _, .ref q2, rfl, rfl, SqL.of e1, e2, _, rfl, q2, _, _, _, rfl, rfl, SqL.of e3, e4, wh, sh, x, y, left, wished, ts, rfl, N4.same sc, al.rect rect, hsm, O2.same sc, feet, tl6, hex, fun R1 HB nR1 sB rsB => ?_⟩
    have scB := sc.trans sB
    have tabB := tabc.same sB
    have ehB := scB _ _ NH
    refine ⟨_, rfl, hn, _, 0, .ref D1, rfl, rfl, SqL.of ehB, rfl, _, rfl, hn, _, 1, .ref D2, rfl, rfl, SqL.of ehB, rfl, _, rfl, _, rfl, _, rfl, D1, D2, D, x, y, bed, wished, ts, rfl, N1.same scB, N2.same scB, O1.same scB, rect, al, small, (fun t ht => ⟨(feet t ht).1, (feet t ht).2.1⟩), tl6, cin, tabB, fun R2 HC nR2 sbC tabC rsC => ?_⟩
    obtain ⟨psB, eTB⟩ := tabB.tbl
    have kC : Same (L2.drop HB Tb) HC := sb_dr.mp sbC
    have noT : ∀ {x : Addr} {o : HO}, L2.drop HA Tb x = some o → x ≠ Tb := fun {x o} e z => by rw [z, drop_same] at e; cases e
    have scC : Same (L2.drop HA Tb) HC := fun z o e => kC z o (by rw [drop_ne (noT e)]; exact scB z o e)
    rw [hleft, whyF_alike al rect] at rsC
    have rsB' : RsAt HC R1 _ := (rsB.dr eTB).same kC
    have wc := rwl_can (whyF wished wished left x y 0 ts)
    obtain ⟨us2, hR2, mvR2⟩ := id rsC
    obtain ⟨us1, hR1, mvR1⟩ := id rsB'
    refine ⟨_, rfl, _, "list", _, true, rfl, .lst hR2, k_list_list, _, rfl, iteF ?_⟩
    refine ⟨_, rfl, _, rfl, _, _, rsC.rp, rsB'.rp, shaped_of wc (by decide), shaped_of wc (by decide), _, rfl, ?_⟩
    rw [eq_false wc.1]
    refine iteF ⟨_, rfl, R2, _, rfl, rsC, fun HD sD => ⟨_, rfl, iteF ?_⟩⟩
    have hR2D := sD _ _ hR2
    have n12 : R1 ≠ R2 := fun z => by
      obtain ⟨_, hB1, _⟩ := rsB
      rw [z, nR2] at hB1
      cases hB1
    refine ⟨_, rfl, .inl ⟨rfl, _, SqL.of hR2D⟩, R2, _, rfl, rfl, hR2D, ?_⟩
    have nR2A : L2.drop HA Tb R2 = none := by
      cases z : L2.drop HA Tb R2 with
      | none => rfl
      | some o => rw [scB _ _ z] at nR2; cases nR2
    have scE : Same (L2.drop HA Tb) (upd HD R2 (.lst [])) := same_in (scC.trans sD) nR2A
    have tabE : TabAt Tb lpos qlam (upd HD R2 (.lst [])) := Car.TabAt.upd (tabC.same sD) hR2D
    have rsE : RsAt (upd HD R2 (.lst [])) R1 (whyF wished wished left x y 0 ts) := ⟨us1, by rw [upd_ne n12]; exact sD _ _ hR1, (mvR1.same sD).upd (sbn hR2D)⟩
    generalize upd HD R2 (.lst []) = HE at scE tabE rsE
    refine ⟨_, rfl, _, rfl, le2, fun t7 h7 => ?_⟩
    have u7 := same_upd h7 (.tup [V.int x, .int y])
    have scF := scE.trans u7
    have hkl := hku hune
    have hkc : k < cs.length := by omega
    have ek := List.getElem?_eq_getElem hkl
    have gk := scF _ _ (NM.at_ ek (by rw [List.getElem?_map, List.getElem?_eq_getElem hkc]; rfl))
    generalize cs[k] = ck at gk
    refine ⟨_, rfl, _, rfl, cl, _, _, .ref us[k], rfl, rfl, SqL.of (scF _ _ NC), atI_nat (by rw [List.getElem?_map, ek]; rfl), prD (x, y), prD ck, .tup (SqT.of upd_same) (.cons (.int _) (.cons (.int _) .nil)), .tup (SqT.of gk) (.cons (.int _) (.cons (.int _) .nil)), prD_sh _, prD_sh _, _, rfl, ?_⟩
    have tabF := tabE.same u7
    have rsF := rsE.same u7
    generalize upd HE t7 (.tup [V.int x, .int y]) = HF at scF tabF rsF gk
    refine ite2 (fun _ => ?_) (fun _ => iteF ⟨_, _, _, _, rfl, scF, tabF⟩)
    have ehF := scF _ _ NH
    refine ⟨_, rfl, hn, _, 0, .ref D1, rfl, rfl, SqL.of ehF, rfl, _, rfl, hn, _, 1, .ref D2, rfl, rfl, SqL.of ehF, rfl, _, rfl, _, rfl, _, rfl, D1, D2, D, x, y, bed, wished, ts, rfl, N1.same scF, N2.same scF, O1.same scF, rect, al, small, (fun t ht => ⟨(feet t ht).1, (feet t ht).2.1⟩), tl6, cin, tabF, fun R3 HG nR3 sbG tabG rsG => ?_⟩
    obtain ⟨psF, eTF⟩ := tabF.tbl
    have kG : Same (L2.drop HF Tb) HG := sb_dr.mp sbG
    have scG : Same (L2.drop HA Tb) HG := fun z o e => kG z o (by rw [drop_ne (noT e)]; exact scF z o e)
    rw [hleft, whyF_alike al rect] at rsG
    have rsG' : RsAt HG R1 _ := (rsF.dr eTF).same kG
    refine ⟨_, rfl, _, _, rsG.rp, rsG'.rp, shaped_of wc (by decide), shaped_of wc (by decide), _, rfl, ?_⟩
    rw [eq_false wc.1]
    exact iteF ⟨_, _, _, _, rfl, scG, tabG⟩
  · rintro σ Hc ⟨g9', g10, g11, g12, rfl, sc, tabc⟩
    have tc := two_can bed wished
    obtain ⟨sc1, sc2⟩ := shelf_sh ts
    refine ⟨_, rfl, _, rfl, _, rfl, le2, fun l2 hl2 => ?_⟩
    have u9 := same_upd hl2 (.lst [V.ref b, .ref wh])
    have s10 := sc.trans u9
    refine ⟨_, _, .lst (SqL.of (s10 _ _ NH)) (.cons (N1.same s10).rp (.cons (N2.same s10).rp .nil)), .lst (SqL.of upd_same) (.cons (N3.same s10).rp (.cons (N4.same s10).rp .nil)), shaped_of tc (by decide), shaped_of tc (by decide), _, rfl, ?_⟩
    rw [eq_true tc.1]
    refine iteT ⟨_, rfl, _, rfl, _, _, (O1.same s10).rp, (O2.same s10).rp, sc2, sc2, ?_⟩
    rw [eq_true sc1]
    exact q _
end
end Car

set_option maxHeartbeats 4000000
namespace Car
open PySem L2
structure FnT (K : PySem.W.Frag) (x : Str) (st : Stmt) (f : Addr) (fd : FuncData) : Prop where
  ns : PySem.W.nsIn K mainGlobals x = some (some (.ref f))
  fn : Fun K x x st f fd
theorem fnT_mk {K : PySem.W.Frag} {x : Str} {st : Stmt} {f : Addr} {oc : Value} {od an : Option Addr} {osl : Array (Option Value)} {kV doc pm cdv ct : Value} (a : PySem.W.nsIn K mainGlobals x = some (some (.ref f)))
    (l : K.lookup f = some ⟨oc, od, .func (PySem.W.fnOf x x (defArgs st) (defBody st) (defScope st) .none kV doc pm an cdv ct), osl⟩) (c : PySem.W.codeIn K cdv x = true) (k : PySem.W.keepIn K (.ref f) = true) : ∃ f fd, FnT K x st f fd := ⟨_, _, a, fun_mk l c k⟩
structure FnTL (K : PySem.W.Frag) (x : Str) (st : Stmt) (f : Addr) (fd : FuncData) (c P : Addr) : Prop where
  ns : PySem.W.nsIn K mainGlobals x = some (some (.ref f))
  fn : FunL K x st f fd c
  hd : PySem.W.codeHdIn K c P = true
theorem fnTL_mk {K : PySem.W.Frag} {x : Str} {st : Stmt} {f c : Addr} (P : Addr) {oc : Value} {od an : Option Addr} {osl : Array (Option Value)} {kV doc pm ct : Value} (a : PySem.W.nsIn K mainGlobals x = some (some (.ref f)))
    (l : K.lookup f = some ⟨oc, od, .func (PySem.W.fnOf x x (defArgs st) (defBody st) (defScope st) .none kV doc pm an (.ref c) ct), osl⟩) (hc : PySem.W.codeIn K (.ref c) x = true) (k : PySem.W.keepIn K (.ref f) = true) (hd : PySem.W.codeHdIn K c P = true) : ∃ f fd c, FnTL K x st f fd c P := ⟨_, _, _, a, ⟨⟨_, _, _, _, _, _, _, _, rfl, l, hc⟩, k⟩, hd⟩
theorem FunL.toFun {K : PySem.W.Frag} {x : Str} {st : Stmt} {f c : Addr} {fd : FuncData} (F : FunL K x st f fd c) : Fun K x x st f fd := by
  obtain ⟨oc, od, kV, doc, pm, an, ct, osl, rfl, lk, hcd⟩ := F.ex
  exact fun_mk lk hcd F.kp
structure NoneT (K : PySem.W.Frag) : Prop where
  len : PySem.W.nsIn K mainGlobals "len" = some none
  max : PySem.W.nsIn K mainGlobals "max" = some none
  min : PySem.W.nsIn K mainGlobals "min" = some none
  range : PySem.W.nsIn K mainGlobals "range" = some none
  isin : PySem.W.nsIn K mainGlobals "isinstance" = some none
  abs : PySem.W.nsIn K mainGlobals "abs" = some none
  tuple : PySem.W.nsIn K mainGlobals "tuple" = some none
  list : PySem.W.nsIn K mainGlobals "list" = some none
  bool : PySem.W.nsIn K mainGlobals "bool" = some none
  int : PySem.W.nsIn K mainGlobals "int" = some none
  enum : PySem.W.nsIn K mainGlobals "enumerate" = some none
  zip : PySem.W.nsIn K mainGlobals "zip" = some none
  sum : PySem.W.nsIn K mainGlobals "sum" = some none
  sorted : PySem.W.nsIn K mainGlobals "sorted" = some none
theorem FnT.fnB {P : Program} {w : World} {K : PySem.W.Frag} {mg : Str → Option Value} {base h : Heap} {x : Str} {st : Stmt} {f : Addr} {fd : FuncData} {k : Nat} {ps : List Str} {sp : Sp} (T : FnT K x st f fd) (X : K.In h) (G : h.Ns mainGlobals mg) (ok : FnOk P w K mg base (CX1 P w) k f fd ps sp) (bi : Binds K fd ps []) : Fn P w K mg base x k ps sp :=
  ⟨f, fd, ok, PySem.W.mg_of X G T.ns, T.fn.kp, bi⟩
theorem all {P : Program} {w : World} {K : PySem.W.Frag} {mg : Str → Option Value} {h : Heap} {fa : Addr} (X : K.In h) (G : h.Ns mainGlobals mg) (hfa : mg "law" = some (.ref fa)) (N : NoneT K) (noT : K.lookup 67 = none)
    (T_cells_of : ∃ f fd, FnT K "cells_of" (top 1) f fd) (T_within : ∃ f fd, FnT K "within" (top 2) f fd) (T_cells_under : ∃ f fd, FnT K "cells_under" (top 3) f fd) (T_places_over : ∃ f fd, FnT K "places_over" (top 4) f fd) (T_greatest : ∃ f fd, FnT K "greatest" (top 5) f fd) (T_lowest_at : ∃ f fd, FnT K "lowest_at" (top 6) f fd) (T_lowest_over : ∃ f fd, FnT K "lowest_over" (top 7) f fd) (T_cut_down : ∃ f fd, FnT K "cut_down" (top 8) f fd) (T_had : ∃ f fd, FnT K "had" (top 9) f fd) (T_why_left : ∃ f fd, FnT K "why_left" (top 11) f fd) (T__law_take : ∃ f fd, FnT K "_law_take" (top 13) f fd) (T__law_cell_at : ∃ f fd, FnT K "_law_cell_at" (top 14) f fd) (T__law_cutter : ∃ f fd, FnT K "_law_cutter" (top 15) f fd) (T__law_drop : ∃ f fd, FnT K "_law_drop" (top 16) f fd) (T__law_rows : ∃ f fd, FnT K "_law_rows" (top 17) f fd) (T__law_case : ∃ f fd, FnT K "_law_case" (top 18) f fd) (T__law_first : ∃ f fd, FnT K "_law_first" (top 19) f fd) (T__law_due : ∃ f fd, FnT K "_law_due" (top 20) f fd) (T__law_whole : ∃ f fd, FnT K "_law_whole" (top 21) f fd) (T_law : ∃ f fd, FnT K "law" (top 22) f fd) (T_first_as_high : ∃ f fd c, FnTL K "first_as_high" (top 10) f fd c 67) :
    TabsK K [67] ∧ ∃ fd : FuncData, (∀ (s : Shared) (v : Value), BindsTo s fd ⟨[v], []⟩ [("script", v)]) ∧ ∀ base : Heap, K.In base → base.Ns mainGlobals mg → BmB mg base → FnOk P w K mg base (CX1 P w) 6 fa fd ["script"] (spLaw 67 K) := by
  obtain ⟨f_cells_of, d_cells_of, T_cells_of⟩ := T_cells_of
  obtain ⟨f_within, d_within, T_within⟩ := T_within
  obtain ⟨f_cells_under, d_cells_under, T_cells_under⟩ := T_cells_under
  obtain ⟨f_places_over, d_places_over, T_places_over⟩ := T_places_over
  obtain ⟨f_greatest, d_greatest, T_greatest⟩ := T_greatest
  obtain ⟨f_lowest_at, d_lowest_at, T_lowest_at⟩ := T_lowest_at
  obtain ⟨f_lowest_over, d_lowest_over, T_lowest_over⟩ := T_lowest_over
  obtain ⟨f_cut_down, d_cut_down, T_cut_down⟩ := T_cut_down
  obtain ⟨f_had, d_had, T_had⟩ := T_had
  obtain ⟨f_why_left, d_why_left, T_why_left⟩ := T_why_left
  obtain ⟨f__law_take, d__law_take, T__law_take⟩ := T__law_take
  obtain ⟨f__law_cell_at, d__law_cell_at, T__law_cell_at⟩ := T__law_cell_at
  obtain ⟨f__law_cutter, d__law_cutter, T__law_cutter⟩ := T__law_cutter
  obtain ⟨f__law_drop, d__law_drop, T__law_drop⟩ := T__law_drop
  obtain ⟨f__law_rows, d__law_rows, T__law_rows⟩ := T__law_rows
  obtain ⟨f__law_case, d__law_case, T__law_case⟩ := T__law_case
  obtain ⟨f__law_first, d__law_first, T__law_first⟩ := T__law_first
  obtain ⟨f__law_due, d__law_due, T__law_due⟩ := T__law_due
  obtain ⟨f__law_whole, d__law_whole, T__law_whole⟩ := T__law_whole
  obtain ⟨f_law, d_law, T_law⟩ := T_law
  obtain ⟨f_h, d_h, c_h, T_h⟩ := T_first_as_high
  have e := hfa.symm.trans (PySem.W.mg_of X G T_law.ns)
  cases e
  refine ⟨fun T hT => ?_, d_law, ?_, fun base _ _ bmb => ?_⟩
  · rw [List.mem_singleton.mp hT]
    exact ⟨noT, _, T_h.hd⟩
  · obtain ⟨oc, od, kV, doc, pm, an, cdv, ct, osl, rfl, lk, hcd⟩ := T_law.fn.ex
    exact fun s v => .of_eq rfl
  have L : LawT mg := ⟨PySem.W.mg_none_of X G N.len, PySem.W.mg_none_of X G N.max, PySem.W.mg_none_of X G N.min, PySem.W.mg_none_of X G N.range, PySem.W.mg_none_of X G N.isin, PySem.W.mg_none_of X G N.abs, PySem.W.mg_none_of X G N.tuple, PySem.W.mg_none_of X G N.list, PySem.W.mg_none_of X G N.bool, PySem.W.mg_none_of X G N.int⟩
  have NE := PySem.W.mg_none_of X G N.enum
  have NS := PySem.W.mg_none_of X G N.sum
  have NO := PySem.W.mg_none_of X G N.sorted
  have F1 := T_within.fnB (P := P) (w := w) (base := base) X G (ok_within L T_within.fn) (T_within.fn.binds fun _ _ _ _ _ _ us hl => match us, hl with | [_, _], _ => rfl)
  have F2 := T_cells_under.fnB (P := P) (w := w) (base := base) X G (ok_under F1 T_cells_under.fn) (T_cells_under.fn.binds fun _ _ _ _ _ _ us hl => match us, hl with | [_, _, _, _], _ => rfl)
  have F3 := T_greatest.fnB (P := P) (w := w) (base := base) X G (ok_great L T_greatest.fn) (T_greatest.fn.binds fun _ _ _ _ _ _ us hl => match us, hl with | [_, _], _ => rfl)
  have F4 := T_cells_of.fnB (P := P) (w := w) (base := base) X G (ok_cells L NE T_cells_of.fn) (T_cells_of.fn.binds fun _ _ _ _ _ _ us hl => match us, hl with | [_], _ => rfl)
  have F5 := T_cut_down.fnB (P := P) (w := w) (base := base) X G (ok_cut L T_cut_down.fn) (T_cut_down.fn.binds fun _ _ _ _ _ _ us hl => match us, hl with | [_, _, _], _ => rfl)
  have F6 := T_had.fnB (P := P) (w := w) (base := base) X G (ok_had L F4 F2 F3 F5 T_had.fn) (T_had.fn.binds fun _ _ _ _ _ _ us hl => match us, hl with | [_, _, _], _ => rfl)
  have P1 := T_places_over.fnB (P := P) (w := w) (base := base) X G (ok_places NO F1 T_places_over.fn) (T_places_over.fn.binds fun _ _ _ _ _ _ us hl => match us, hl with | [_, _, _, _], _ => rfl)
  have P2 := T_lowest_at.fnB (P := P) (w := w) (base := base) X G (ok_lowest F2 F3 T_lowest_at.fn) (T_lowest_at.fn.binds fun _ _ _ _ _ _ us hl => match us, hl with | [_, _, _, _], _ => rfl)
  have P3 := T_lowest_over.fnB (P := P) (w := w) (base := base) X G (ok_over L P1 P2 T_lowest_over.fn) (T_lowest_over.fn.binds fun _ _ _ _ _ _ us hl => match us, hl with | [_, _, _, _, _], _ => rfl)
  have P4 : Fn P w K mg base "first_as_high" 3 ["wished", "cells", "height"] (spHigh 67) := ⟨f_h, d_h, ok_high L ⟨T_h.hd, bmb⟩ T_h.fn, PySem.W.mg_of X G T_h.ns, T_h.fn.kp, (T_h.fn.toFun.binds fun _ _ _ _ _ _ us hl => match us, hl with | [_, _, _], _ => rfl)⟩
  have P5 := T_why_left.fnB (P := P) (w := w) (base := base) X G (ok_why L NE P3 P1 F2 P4 T_why_left.fn) (T_why_left.fn.binds fun _ _ _ _ _ _ us hl => match us, hl with | [_, _, _, _, _], _ => rfl)
  have F7 := T__law_take.fnB (P := P) (w := w) (base := base) X G (ok_tk T__law_take.fn) (T__law_take.fn.binds fun _ _ _ _ _ _ us hl => match us, hl with | [_, _], _ => rfl)
  have F8 := T__law_cell_at.fnB (P := P) (w := w) (base := base) X G (ok_at L T__law_cell_at.fn) (T__law_cell_at.fn.binds fun _ _ _ _ _ _ us hl => match us, hl with | [_, _], _ => rfl)
  have F9 := T__law_cutter.fnB (P := P) (w := w) (base := base) X G (ok_cutter L F7 T__law_cutter.fn) (T__law_cutter.fn.binds fun _ _ _ _ _ _ us hl => match us, hl with | [_, _], _ => rfl)
  have FA := T__law_drop.fnB (P := P) (w := w) (base := base) X G (ok_drop F7 T__law_drop.fn) (T__law_drop.fn.binds fun _ _ _ _ _ _ us hl => match us, hl with | [_, _], _ => rfl)
  have FB := T__law_rows.fnB (P := P) (w := w) (base := base) X G (ok_rows L F7 F8 FA T__law_rows.fn) (T__law_rows.fn.binds fun _ _ _ _ _ _ us hl => match us, hl with | [_, _, _, _], _ => rfl)
  have FC := T__law_case.fnB (P := P) (w := w) (base := base) X G (ok_case L NS F7 F8 FB F9 T__law_case.fn) (T__law_case.fn.binds fun _ _ _ _ _ _ us hl => match us, hl with | [_], _ => rfl)
  have FD := T__law_first.fnB (P := P) (w := w) (base := base) X G (ok_fst L NO T__law_first.fn) (T__law_first.fn.binds fun _ _ _ _ _ _ us hl => match us, hl with | [_, _, _, _, _], _ => rfl)
  have FE := T__law_due.fnB (P := P) (w := w) (base := base) X G (ok_due L FD T__law_due.fn) (T__law_due.fn.binds fun _ _ _ _ _ _ us hl => match us, hl with | [_, _, _, _, _], _ => rfl)
  have FF := T__law_whole.fnB (P := P) (w := w) (base := base) X G (ok_whole L T__law_whole.fn) (T__law_whole.fn.binds fun _ _ _ _ _ _ us hl => match us, hl with | [_], _ => rfl)
  exact ok_law L FC FE FF F6 P5 T_law.fn
theorem walk {l : PySem.W.OpenLaw} {q : Program} {loose : List Str} {XP : (Str → Option Value) → Heap → Prop} {YP : World → Heap → Prop} {d : DefRec} {K : Params → PySem.W.Frag} (hn : l.most = some 63) (hdf : d.params.defaults = [])
    (hY : ∀ (w : World) (h : Heap), YP w h → (K w.params).In h ∧ ∀ T ∈ [67], h.get? T = some (PySem.W.tabObj #[]))
    (F : ∀ (w : World) (mg : Str → Option Value) (fa : Addr) (h : Heap), (K w.params).In h → h.Ns mainGlobals mg → mg d.name = some (.ref fa) →
      TabsK (K w.params) [67] ∧ ∃ fd : FuncData, (∀ (s : Shared) (u : Value), BindsTo s fd ⟨[u], []⟩ [("script", u)]) ∧ ∀ base : Heap, (K w.params).In base → base.Ns mainGlobals mg → BmB mg base → FnOk l.prog w (K w.params) mg base (CX1 l.prog w) 6 fa fd ["script"] (spLaw 67 (K w.params))) :
    PySem.W.WalkO q loose XP YP l.row.toRowW d [] (fun f vs => PySem.call f vs) :=
  L2.walk_ofT (n := 63) (k := 6) (x := "script") (CX := fun w => CX1 l.prog w) (sp := fun w => spLaw 67 (K w.params)) (tabs := [67]) hn (by decide) hdf ⟨rfl, by decide, by decide⟩ hY F (fun _ _ a ns hl hT hS => ⟨a, ns, rfl, hS, hl, hT 67 (List.mem_singleton.mpr rfl), fun _ => rfl⟩) fun _ _ _ _ _ z => by
    obtain ⟨_, _, _, _, _, _, _, _, _, _, _, _, _, _, _, ff⟩ := z
    exact ff
end Car
open PySem PySem.W PyProof.Rows
set_option maxRecDepth 100000 in
set_option maxHeartbeats 0 in
theorem PySem.Challenge.cw_carvebed_k41_why_a_cell_is_left_holds : PySem.Challenge.rw_carvebed_k41_why_a_cell_is_left.Holds := by
  w_on; o_law; k_head; (case hw => w_witness2)
  k_fill
  refine Car.walk (l := PySem.Challenge.rw_carvebed_k41_why_a_cell_is_left) rfl rfl (fun w h Y => ⟨PySem.W.km_in_of Y, PySem.W.km_tabs_of Y⟩) ?F
  case F =>
    intro w mg fa h KX G hmg
    have T_cells_of : ∃ f fd, Car.FnT (L2.KOf KX) "cells_of" (Car.top 1) f fd := by
      dsimp only [L2.KOf]
      refine' Car.fnT_mk ?a ?l ?c ?k
      (case a => k_is); (case l => k_is); (case c => k_is); (case k => k_is)
    have T_within : ∃ f fd, Car.FnT (L2.KOf KX) "within" (Car.top 2) f fd := by
      dsimp only [L2.KOf]
      refine' Car.fnT_mk ?a ?l ?c ?k
      (case a => k_is); (case l => k_is); (case c => k_is); (case k => k_is)
    have T_cells_under : ∃ f fd, Car.FnT (L2.KOf KX) "cells_under" (Car.top 3) f fd := by
      dsimp only [L2.KOf]
      refine' Car.fnT_mk ?a ?l ?c ?k
      (case a => k_is); (case l => k_is); (case c => k_is); (case k => k_is)
    have T_places_over : ∃ f fd, Car.FnT (L2.KOf KX) "places_over" (Car.top 4) f fd := by
      dsimp only [L2.KOf]
      refine' Car.fnT_mk ?a ?l ?c ?k
      (case a => k_is); (case l => k_is); (case c => k_is); (case k => k_is)
    have T_greatest : ∃ f fd, Car.FnT (L2.KOf KX) "greatest" (Car.top 5) f fd := by
      dsimp only [L2.KOf]
      refine' Car.fnT_mk ?a ?l ?c ?k
      (case a => k_is); (case l => k_is); (case c => k_is); (case k => k_is)
    have T_lowest_at : ∃ f fd, Car.FnT (L2.KOf KX) "lowest_at" (Car.top 6) f fd := by
      dsimp only [L2.KOf]
      refine' Car.fnT_mk ?a ?l ?c ?k
      (case a => k_is); (case l => k_is); (case c => k_is); (case k => k_is)
    have T_lowest_over : ∃ f fd, Car.FnT (L2.KOf KX) "lowest_over" (Car.top 7) f fd := by
      dsimp only [L2.KOf]
      refine' Car.fnT_mk ?a ?l ?c ?k
      (case a => k_is); (case l => k_is); (case c => k_is); (case k => k_is)
    have T_cut_down : ∃ f fd, Car.FnT (L2.KOf KX) "cut_down" (Car.top 8) f fd := by
      dsimp only [L2.KOf]
      refine' Car.fnT_mk ?a ?l ?c ?k
      (case a => k_is); (case l => k_is); (case c => k_is); (case k => k_is)
    have T_had : ∃ f fd, Car.FnT (L2.KOf KX) "had" (Car.top 9) f fd := by
      dsimp only [L2.KOf]
      refine' Car.fnT_mk ?a ?l ?c ?k
      (case a => k_is); (case l => k_is); (case c => k_is); (case k => k_is)
    have T_why_left : ∃ f fd, Car.FnT (L2.KOf KX) "why_left" (Car.top 11) f fd := by
      dsimp only [L2.KOf]
      refine' Car.fnT_mk ?a ?l ?c ?k
      (case a => k_is); (case l => k_is); (case c => k_is); (case k => k_is)
    have T__law_take : ∃ f fd, Car.FnT (L2.KOf KX) "_law_take" (Car.top 13) f fd := by
      dsimp only [L2.KOf]
      refine' Car.fnT_mk ?a ?l ?c ?k
      (case a => k_is); (case l => k_is); (case c => k_is); (case k => k_is)
    have T__law_cell_at : ∃ f fd, Car.FnT (L2.KOf KX) "_law_cell_at" (Car.top 14) f fd := by
      dsimp only [L2.KOf]
      refine' Car.fnT_mk ?a ?l ?c ?k
      (case a => k_is); (case l => k_is); (case c => k_is); (case k => k_is)
    have T__law_cutter : ∃ f fd, Car.FnT (L2.KOf KX) "_law_cutter" (Car.top 15) f fd := by
      dsimp only [L2.KOf]
      refine' Car.fnT_mk ?a ?l ?c ?k
      (case a => k_is); (case l => k_is); (case c => k_is); (case k => k_is)
    have T__law_drop : ∃ f fd, Car.FnT (L2.KOf KX) "_law_drop" (Car.top 16) f fd := by
      dsimp only [L2.KOf]
      refine' Car.fnT_mk ?a ?l ?c ?k
      (case a => k_is); (case l => k_is); (case c => k_is); (case k => k_is)
    have T__law_rows : ∃ f fd, Car.FnT (L2.KOf KX) "_law_rows" (Car.top 17) f fd := by
      dsimp only [L2.KOf]
      refine' Car.fnT_mk ?a ?l ?c ?k
      (case a => k_is); (case l => k_is); (case c => k_is); (case k => k_is)
    have T__law_case : ∃ f fd, Car.FnT (L2.KOf KX) "_law_case" (Car.top 18) f fd := by
      dsimp only [L2.KOf]
      refine' Car.fnT_mk ?a ?l ?c ?k
      (case a => k_is); (case l => k_is); (case c => k_is); (case k => k_is)
    have T__law_first : ∃ f fd, Car.FnT (L2.KOf KX) "_law_first" (Car.top 19) f fd := by
      dsimp only [L2.KOf]
      refine' Car.fnT_mk ?a ?l ?c ?k
      (case a => k_is); (case l => k_is); (case c => k_is); (case k => k_is)
    have T__law_due : ∃ f fd, Car.FnT (L2.KOf KX) "_law_due" (Car.top 20) f fd := by
      dsimp only [L2.KOf]
      refine' Car.fnT_mk ?a ?l ?c ?k
      (case a => k_is); (case l => k_is); (case c => k_is); (case k => k_is)
    have T__law_whole : ∃ f fd, Car.FnT (L2.KOf KX) "_law_whole" (Car.top 21) f fd := by
      dsimp only [L2.KOf]
      refine' Car.fnT_mk ?a ?l ?c ?k
      (case a => k_is); (case l => k_is); (case c => k_is); (case k => k_is)
    have T_law : ∃ f fd, Car.FnT (L2.KOf KX) "law" (Car.top 22) f fd := by
      dsimp only [L2.KOf]
      refine' Car.fnT_mk ?a ?l ?c ?k
      (case a => k_is); (case l => k_is); (case c => k_is); (case k => k_is)
    have T_first_as_high : ∃ f fd c, Car.FnTL (L2.KOf KX) "first_as_high" (Car.top 10) f fd c 67 := by
      dsimp only [L2.KOf]
      refine' Car.fnTL_mk 67 ?a ?l ?c ?k ?d
      (case a => k_is); (case l => k_is); (case c => k_is); (case k => k_is); (case d => kernel_rfl)
    have noT : (L2.KOf KX).lookup 67 = none := by
      dsimp only [L2.KOf]
      kernel_rfl
    have N : Car.NoneT (L2.KOf KX) := by
      dsimp only [L2.KOf]
      refine' ⟨?n0, ?n1, ?n2, ?n3, ?n4, ?n5, ?n6, ?n7, ?n8, ?n9, ?n10, ?n11, ?n12, ?n13⟩
      (case n0 => k_is); (case n1 => k_is); (case n2 => k_is); (case n3 => k_is); (case n4 => k_is); (case n5 => k_is); (case n6 => k_is); (case n7 => k_is); (case n8 => k_is); (case n9 => k_is); (case n10 => k_is); (case n11 => k_is); (case n12 => k_is); (case n13 => k_is)
    exact Car.all KX G hmg N noT T_cells_of T_within T_cells_under T_places_over T_greatest T_lowest_at T_lowest_over T_cut_down T_had T_why_left T__law_take T__law_cell_at T__law_cutter T__law_drop T__law_rows T__law_case T__law_first T__law_due T__law_whole T_law T_first_as_high
#print axioms PySem.Challenge.cw_carvebed_k41_why_a_cell_is_left_holds

