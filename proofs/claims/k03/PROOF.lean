import PyProof.Rows.All
import Wide.All
import OpenK.AllK
import Wide.FinOn
import Lean
import PyProof.EqAt
import PyProof.EqKinds
import PyProof.TupleCall
import PySem.Challenge.RW_carvebed_k03_expressions_refused
set_option Elab.async false
set_option linter.all false
set_option maxRecDepth 100000
-- CHANGE: your row's module here, as the last of these rows
/-! THE HAND LAYER, for ints, bools, texts, own classes, LISTS and tuples (index, slices, in, append, pop ..), calls, loops. Paste it whole ahead of your own text; what your proof does not reach may be deleted. -/
namespace L2
open PySem PySem.Spec PyProof.Rows

/-- a key: an int or a str -/
noncomputable abbrev Key := Sum Int Str
noncomputable def keyIs : Key → Value → Bool
  | .inl k, v => Value.isInt k v
  | .inr x, v => Value.isStrOf x v
noncomputable def keyH (w : World) : Key → Int
  | .inl k => hashInt k
  | .inr x => hashStr w x
theorem keyIs_shape : ∀ {k : Key} {v : Value}, keyIs k v = true → (∃ i t, k = Sum.inl i ∧ v = Value.int i t) ∨ (∃ x t, k = Sum.inr x ∧ v = Value.str x t)
  | .inl i, v, h => by
    obtain ⟨t, e⟩ := Value.isInt_shape (k := i) (v := v) h
    exact .inl ⟨i, t, rfl, e⟩
  | .inr x, v, h => by
    obtain ⟨t, e⟩ := Value.isStrOf_shape (x := x) (v := v) h
    exact .inr ⟨x, t, rfl, e⟩
theorem key_ll (a b : Int) : decide ((Sum.inl a : Key) = Sum.inl b) = (a == b) := by
  by_cases e : a = b
  · subst e; simp
  · have h : ¬ (Sum.inl a : Key) = Sum.inl b := fun q => e (Sum.inl.inj q)
    rw [decide_eq_false h]
    exact (beq_eq_false_iff_ne.mpr e).symm
theorem key_rr (a b : Str) : decide ((Sum.inr a : Key) = Sum.inr b) = decide (a = b) := by
  by_cases e : a = b
  · subst e; simp
  · have h : ¬ (Sum.inr a : Key) = Sum.inr b := fun q => e (Sum.inr.inj q)
    rw [decide_eq_false h, decide_eq_false e]
theorem key_lr (a : Int) (b : Str) : decide ((Sum.inl a : Key) = Sum.inr b) = false := decide_eq_false (fun q => nomatch q)
theorem key_rl (a : Str) (b : Int) : decide ((Sum.inr a : Key) = Sum.inl b) = false := decide_eq_false (fun q => nomatch q)

noncomputable def mixKind (prog : Program) (w : World) : PySem.KeyKind prog w Key where
  is := keyIs
  hash := keyH w
  inj := fun v a b ha hb => by
    rcases keyIs_shape ha with ⟨i, t, rfl, rfl⟩ | ⟨x, t, rfl, rfl⟩
    · rcases keyIs_shape hb with ⟨j, u, rfl, e⟩ | ⟨y, u, rfl, e⟩
      · injection e with e1 _; rw [e1]
      · exact nomatch e
    · rcases keyIs_shape hb with ⟨j, u, rfl, e⟩ | ⟨y, u, rfl, e⟩
      · exact nomatch e
      · injection e with e1 _; rw [e1]
  byValue := fun k v h => by
    rcases keyIs_shape h with ⟨i, t, rfl, rfl⟩ | ⟨x, t, rfl, rfl⟩ <;> rfl
  pyHash := fun hv h => by
    rcases keyIs_shape hv with ⟨i, t, rfl, rfl⟩ | ⟨x, t, rfl, rfl⟩
    · exact wpAny_pyHash_int h
    · exact wpAny_pyHash_str h
  eqBool := fun hu hv h => by
    rcases keyIs_shape hu with ⟨i, t, rfl, rfl⟩ | ⟨x, t, rfl, rfl⟩
    · rcases keyIs_shape hv with ⟨j, u, rfl, rfl⟩ | ⟨y, u, rfl, rfl⟩
      · rw [key_ll] at h; exact wpAny_eqBool_int h
      · rw [key_lr] at h; exact SeqAt.EqAt.int_str i t y u _ _ _ _ h
    · rcases keyIs_shape hv with ⟨j, u, rfl, rfl⟩ | ⟨y, u, rfl, rfl⟩
      · rw [key_rl] at h; exact SeqAt.EqAt.str_int x t j u _ _ _ _ h
      · rw [key_rr] at h; exact wpAny_eqBool_str h
  «strs» := fun k x t v h => by
    rcases keyIs_shape h with ⟨i, u, rfl, e⟩ | ⟨y, u, rfl, e⟩
    · exact nomatch e
    · injection e with e1 _
      subst e1
      cases v <;> rfl

end L2

namespace L2
open PySem PySem.Spec PyProof.Rows

/-- a value, without the heap -/
inductive V where
  | non | bl (b : Bool) | int (i : Int) | str (x : Str) | byt (b : Array UInt8) | flt (b : UInt64) | ref (a : Addr) | ty (n : String)
  deriving DecidableEq

noncomputable def RelV : V → Value → Prop
  | .non, u => u = Value.none
  | .bl b, u => u = Value.bool b
  | .int i, u => ∃ t, u = Value.int i t
  | .str x, u => ∃ t, u = Value.str x t
  | .byt b, u => ∃ t, u = Value.bytes b t
  | .flt b, u => ∃ t, u = Value.float b t
  | .ref a, u => u = Value.ref a
  | .ty n, u => u = Value.type n

noncomputable abbrev Vals : List V → List Value → Prop := Paired RelV
theorem Vals.length {xs : List V} {us : List Value} (r : Vals xs us) : xs.length = us.length := Paired.length r
theorem Vals.get : ∀ {xs : List V} {us : List Value} {i : Nat} {x : V}, Vals xs us → xs[i]? = some x → ∃ u, us[i]? = some u ∧ RelV x u
  | _, _, _, _, .nil, e => by simp at e
  | _, _, 0, _, .cons r _, e => by simp at e; subst e; exact ⟨_, rfl, r⟩
  | _, _, i + 1, x, .cons _ t, e => by
    obtain ⟨u, h1, h2⟩ := Vals.get (i := i) (x := x) t (by simpa using e)
    exact ⟨u, by simpa using h1, h2⟩
theorem Vals.set {x : V} {u : Value} (r : RelV x u) : ∀ {xs : List V} {us : List Value} (i : Nat), Vals xs us → Vals (xs.set i x) (us.set i u)
  | _, _, _, .nil => .nil
  | _, _, 0, .cons _ t => .cons r t
  | _, _, i + 1, .cons q t => .cons q (Vals.set r i t)
theorem Vals.append : ∀ {xs ys : List V} {us ws : List Value}, Vals xs us → Vals ys ws → Vals (xs ++ ys) (us ++ ws)
  | _, _, _, _, .nil, s => s
  | _, _, _, _, .cons r t, s => .cons r (Vals.append t s)
theorem Vals.take : ∀ {xs : List V} {us : List Value} (n : Nat), Vals xs us → Vals (xs.take n) (us.take n)
  | _, _, 0, _ => .nil
  | _, _, _ + 1, .nil => .nil
  | _, _, n + 1, .cons r t => .cons r (Vals.take n t)
theorem Vals.drop : ∀ {xs : List V} {us : List Value} (n : Nat), Vals xs us → Vals (xs.drop n) (us.drop n)
  | _, _, 0, r => r
  | _, _, _ + 1, .nil => .nil
  | _, _, n + 1, .cons _ t => Vals.drop n t

noncomputable def RelO : Option V → Option Value → Prop
  | some v, some u => RelV v u
  | none, none => True
  | _, _ => False
noncomputable def KV {κ : Type} : List (κ × V) → List (κ × Value) → Prop := Paired fun (p : κ × V) (q : κ × Value) => p.1 = q.1 ∧ RelV p.2 q.2

/-- a key of a dict (00_mix): an int or a text -/
noncomputable def kV : Key → V
  | .inl i => .int i
  | .inr x => .str x

/-- what stands at a tracked address -/
inductive HO where
  /-- a list -/
  | lst (xs : List V)
  /-- a tuple (never changes) -/
  | tup (xs : List V)
  /-- a dict whose keys are ints and texts; one whose keys are tuples of ints and texts (the empty one is both) -/
  | dK (kvs : List (Key × V)) | dT (kvs : List (List Key × V))
  /-- a set of ints: its members, its size -/
  | set (S : Int → Bool) (n : Nat)
  /-- an instance of the class at C, its dict at dx, its attributes -/
  | ins (C dx : Addr) (fs : List (Str × V))
  /-- the dict of the instance at x -/
  | own (x : Addr)
  /-- the dict of an exception -/
  | xd (fs : List (Str × V))
  /-- a bound method, f of x -/
  | met (f x : Addr)
  /-- a range object lo, lo + 1, .. below hi -/
  | rng (lo hi : Int)
  /-- a thing that is known to the object (the script; a dict while a loop walks it): read, never written while it is so -/
  | frz (o : Obj) (u : HO)
  /-- a code object's table -/
  | tbl (ps : Array Value)
  /-- any other thing, by what is true of its one object (a def of one's own: SetO a S n := HO.ext fun h => ..) -/
  | ext (φ : Heap → Prop)

noncomputable abbrev Hp := Addr → Option HO
noncomputable def upd (H : Hp) (a : Addr) (o : HO) : Hp := fun b => if b = a then some o else H b
theorem upd_same {H : Hp} {a : Addr} {o : HO} : upd H a o a = some o := by unfold upd; rw [if_pos rfl]
theorem upd_ne {H : Hp} {a b : Addr} {o : HO} (h : b ≠ a) : upd H a o b = H b := by unfold upd; rw [if_neg h]
theorem upd_upd {H : Hp} {a : Addr} {o u : HO} : upd (upd H a o) a u = upd H a u := by
  funext b; unfold upd; split <;> rfl
theorem ne_of_none {H : Hp} {a b : Addr} {o : HO} (h : H a = some o) (h' : H b = none) : a ≠ b := by
  intro e; subst e; rw [h] at h'; cases h'

section
variable (P : Program) (w : World)
noncomputable def ObjOk (H : Hp) (h : Heap) (a : Addr) : HO → Prop
  | .lst xs => xs.length ≤ sizeLine ∧ ∃ (its : List Value) (n : Nat), Vals xs its ∧ h.get? a = some { cls := .type "list", data := .seq its.toArray n }
  | .tup xs => xs.length ≤ sizeLine ∧ ∃ its : List Value, Vals xs its ∧ IsTup h a its.toArray
  | .dK kvs => kvs.length ≤ sizeLine ∧ (a == sysModules) = false ∧ ∃ vs, KV kvs vs ∧ h.DictOf (mixKind P w) a vs
  | .dT kvs => kvs.length ≤ sizeLine ∧ (a == sysModules) = false ∧ ∃ xs : List (List Key × Addr × Value),
      Paired (fun (p : List Key × V) (q : List Key × Addr × Value) => p.1 = q.1 ∧ H q.2.1 = some (.tup (p.1.map kV)) ∧ RelV p.2 q.2.2) kvs xs ∧
      ∃ o es ep, h.get? a = some o ∧ o.ExactDict ∧ o.data = .dict es ep ∧ es.toList = xs.map (entryOfKey (tupleKind (mixKind P w))) ∧ (xs.map (·.1)).Nodup
  | .set S n => h.SetOf (intKind P w) a S n
  | .ins C dx fs => H dx = some (.own a) ∧ fs.length ≤ 1000 ∧ dx ≠ a ∧ h.get? a = some (PySem.W.instObj C dx) ∧
      ∃ mA, h.Ns1 dx mA ∧ (∀ f, RelO (fs.lookup f) (mA f)) ∧ PySem.Within mA (fs.map (·.1))
  | .own _ => ∃ o, h.get? a = some o
  | .xd fs => ∃ mA, h.Ns1 a mA ∧ ∀ f, RelO (fs.lookup f) (mA f)
  | .rng lo hi => ∃ t u v, h.get? a = some { cls := .type "range", data := .fields #[.int lo t, .int hi u, .int 1 v] }
  | .frz o u => h.get? a = some o ∧ ObjOk H h a u
  | .tbl ps => h.get? a = some { cls := .none, data := .fields ps }
  | .met f x => h.get? a = some (PySem.W.methodObj (.ref f) (.ref x))
  | .ext φ => φ h ∧ (∃ o, h.get? a = some o) ∧ ∀ h1 h2 : Heap, φ h1 → (∀ o, h1.get? a = some o → h2.get? a = some o) → φ h2
/-- the abstract heap is held -/
noncomputable def HOk (H : Hp) (h : Heap) : Prop := ∀ a o, H a = some o → ObjOk P w H h a o
end

section
variable {P : Program} {w : World} {H H' : Hp} {h h' : Heap} {a : Addr} {o : HO}
theorem ObjOk.lt (x : ObjOk P w H h a o) : a < h.objs.size := by
  cases o with
  | lst xs => obtain ⟨_, _, _, _, e⟩ := x; exact Heap.lt_size e
  | tup xs => obtain ⟨_, _, _, p⟩ := x; exact p.lt
  | dK kvs => obtain ⟨_, _, _, _, o, _, _, e, _⟩ := x; exact Heap.lt_size e
  | dT kvs => obtain ⟨_, _, _, _, o, _, _, e, _⟩ := x; exact Heap.lt_size e
  | set S n => obtain ⟨o, _, _, _, e, _⟩ := x; exact Heap.lt_size e
  | ins C dx fs => obtain ⟨_, _, _, e, _⟩ := x; exact Heap.lt_size e
  | own y => obtain ⟨_, e⟩ := x; exact Heap.lt_size e
  | xd fs => obtain ⟨_, ⟨_, _, _, e, _⟩, _⟩ := x; exact Heap.lt_size e
  | rng lo hi => obtain ⟨_, _, _, e⟩ := x; exact Heap.lt_size e
  | frz ob u => obtain ⟨e, _⟩ := x; exact Heap.lt_size e
  | tbl ps => exact Heap.lt_size (show h.get? a = some _ from x)
  | met f y => exact Heap.lt_size (show h.get? a = some _ from x)
  | ext φ => obtain ⟨_, ⟨_, e⟩, _⟩ := x; exact Heap.lt_size e
theorem Paired.mapP {α β : Type} {F G : α → β → Prop} : ∀ {l₁ : List α} {l₂ : List β}, Paired F l₁ l₂ → (∀ a b, F a b → G a b) → Paired G l₁ l₂
  | _, _, .nil, _ => .nil
  | _, _, .cons r t, f => .cons (f _ _ r) (Paired.mapP t f)
/-- what an object's description leans on: its own object, its own dict, the tuples -/
theorem ObjOk.stay (x : ObjOk P w H h a o) (k : ∀ b u, (b = a ∨ H b = some (.own a)) → h.get? b = some u → h'.get? b = some u)
    (ho : ∀ b, H b = some (.own a) → H' b = some (.own a)) (ht : ∀ b xs, H b = some (.tup xs) → H' b = some (.tup xs)) : ObjOk P w H' h' a o := by
  induction o with
  | lst xs => obtain ⟨z, its, n, r, e⟩ := x; exact ⟨z, its, n, r, k _ _ (.inl rfl) e⟩
  | tup xs => obtain ⟨z, its, r, ob, e, c⟩ := x; exact ⟨z, its, r, ob, k _ _ (.inl rfl) e, c⟩
  | dK kvs => obtain ⟨z, y, vs, r, ob, es, ep, e, c⟩ := x; exact ⟨z, y, vs, r, ob, es, ep, k _ _ (.inl rfl) e, c⟩
  | dT kvs =>
    obtain ⟨z, y, xs, r, ob, es, ep, e, c⟩ := x
    exact ⟨z, y, xs, Paired.mapP r fun p q z => ⟨z.1, ht _ _ z.2.1, z.2.2⟩, ob, es, ep, k _ _ (.inl rfl) e, c⟩
  | set S n => obtain ⟨ob, es, ep, t, e, c⟩ := x; exact ⟨ob, es, ep, t, k _ _ (.inl rfl) e, c⟩
  | ins C dx fs =>
    obtain ⟨d, z, ne, e, mA, ⟨od, es, ep, e2, c⟩, r⟩ := x
    exact ⟨ho _ d, z, ne, k _ _ (.inl rfl) e, mA, ⟨od, es, ep, k _ _ (.inr d) e2, c⟩, r⟩
  | own y => obtain ⟨ob, e⟩ := x; exact ⟨ob, k _ _ (.inl rfl) e⟩
  | xd fs => obtain ⟨mA, ⟨od, es, ep, e, c⟩, r⟩ := x; exact ⟨mA, ⟨od, es, ep, k _ _ (.inl rfl) e, c⟩, r⟩
  | rng lo hi => obtain ⟨t, u, v, e⟩ := x; exact ⟨t, u, v, k _ _ (.inl rfl) e⟩
  | frz ob u ih => obtain ⟨e, q⟩ := x; exact ⟨k _ _ (.inl rfl) e, ih q⟩
  | tbl ps =>
    have e : h.get? a = some { cls := .none, data := .fields ps } := x
    show h'.get? a = some { cls := .none, data := .fields ps }
    exact k a _ (.inl rfl) e
  | met f y =>
    have e : h.get? a = some (PySem.W.methodObj (.ref f) (.ref y)) := x
    show h'.get? a = some (PySem.W.methodObj (.ref f) (.ref y))
    exact k a _ (.inl rfl) e
  | ext φ => obtain ⟨p, ⟨o, e⟩, st⟩ := x; exact ⟨st _ _ p fun o q => k _ _ (.inl rfl) q, ⟨o, k _ _ (.inl rfl) e⟩, st⟩
theorem HOk.lt (x : HOk P w H h) (e : H a = some o) : a < h.objs.size := (x a o e).lt
theorem HOk.fresh (x : HOk P w H h) (e : h.objs.size ≤ a) : H a = none := by
  cases q : H a with
  | none => rfl
  | some u => exact absurd (Nat.lt_of_lt_of_le (x.lt q) e) (Nat.lt_irrefl _)
/-- every object of the heap is kept -/
theorem HOk.kept (x : HOk P w H h) (k : ∀ b u, h.get? b = some u → h'.get? b = some u) : HOk P w H h' := fun a o e =>
  (x a o e).stay (fun b u _ q => k b u q) (fun _ q => q) fun _ _ q => q
/-- a new object is laid and tracked -/
theorem HOk.laid (x : HOk P w H h) (k : ∀ b u, h.get? b = some u → h'.get? b = some u) (hp : h.objs.size ≤ a) (new : ObjOk P w (upd H a o) h' a o) : HOk P w (upd H a o) h' := fun b u e => by
  have hn := x.fresh hp
  by_cases hb : b = a
  · subst hb; rw [upd_same] at e; cases e; exact new
  · rw [upd_ne hb] at e
    exact (x b u e).stay (fun c v _ q => k c v q) (fun c q => by rw [upd_ne (ne_of_none q hn)]; exact q) fun c xs q => by rw [upd_ne (ne_of_none q hn)]; exact q
end

/-- what may be read as u: it is u, or a known u -/
noncomputable def Rd (H : Hp) (a : Addr) (u : HO) : Prop := H a = some u ∨ ∃ o, H a = some (.frz o u)
theorem Rd.ok {P : Program} {w : World} {H : Hp} {h : Heap} {a : Addr} {u : HO} (r : Rd H a u) (x : HOk P w H h) : ObjOk P w H h a u := by
  rcases r with r | ⟨o, r⟩
  · exact x a u r
  · obtain ⟨_, q⟩ := x a _ r
    exact q
/-- what may be written -/
noncomputable def Mut : Option HO → Prop
  | some (.lst _) => True
  | some (.dK _) => True
  | some (.dT _) => True
  | some (.set _ _) => True
  | some (.ins _ _ _) => True
  | some (.ext _) => True
  | _ => False
section
variable {P : Program} {w : World} {H : Hp} {h h' : Heap} {x e : Addr} {o' : HO}
/-- the object at e is changed: x itself, or the dict of the instance x -/
theorem HOk.write (ok : HOk P w H h) (mu : Mut (H x)) (he : e = x ∨ H e = some (.own x)) (k : ∀ b u, b ≠ e → h.get? b = some u → h'.get? b = some u) (heo : ∃ u, h'.get? e = some u)
    (new : ObjOk P w (upd H x o') h' x o') : HOk P w (upd H x o') h' := fun b u q => by
  have nown : ∀ c y, H c = some (.own y) → c ≠ x := fun c y r z => by subst z; rw [r] at mu; exact mu
  have ntup : ∀ c xs, H c = some (.tup xs) → c ≠ x := fun c xs r z => by subst z; rw [r] at mu; exact mu
  by_cases hb : b = x
  · subst hb; rw [upd_same] at q; cases q; exact new
  · rw [upd_ne hb] at q
    by_cases hbe : b = e
    · have q' : H b = some (.own x) := by
        rcases he with z | z
        · exact absurd (hbe.trans z) hb
        · rw [hbe]; exact z
      rw [q] at q'; cases q'
      obtain ⟨v, hv⟩ := heo
      exact ⟨v, by rw [hbe]; exact hv⟩
    · refine (ok b u q).stay (fun c v hc r => k c v ?_ r) (fun c r => by rw [upd_ne (nown c b r)]; exact r) fun c xs r => by rw [upd_ne (ntup c xs r)]; exact r
      rcases hc with rfl | hc
      · exact hbe
      · rintro rfl
        rcases he with z | z
        · exact nown c b hc z
        · rw [hc] at z; cases z; exact hb rfl
end

/-! ### kept unless tracked; of the frames at fs (the callers') the slots may change (an exception that passes writes there); of the records at ex (iterators) nothing is said -/
structure Un (fs ex : List Addr) (H H' : Hp) (h h' : Heap) : Prop where
  keep : ∀ b o, h.get? b = some o → H b = none → b ∉ fs → b ∉ ex → h'.get? b = some o
  slot : ∀ b o, h.get? b = some o → H b = none → b ∈ fs → b ∉ ex → ∃ sl, h'.get? b = some { o with slots := sl }
  free : ∀ b o, h.get? b = some o → H b = none → b ∉ ex → H' b = none
  there : ∀ b o, h.get? b = some o → b ∉ ex → ∃ o', h'.get? b = some o'
  tups : ∀ b xs, H b = some (.tup xs) → H' b = some (.tup xs)
  frzs : ∀ b o u, H b = some (.frz o u) → H' b = some (.frz o u)
  tbls : ∀ b ps, H b = some (.tbl ps) → ∃ more, H' b = some (.tbl (ps ++ more))
section
variable {fs fs' ex ex' : List Addr} {H H1 H2 : Hp} {h h1 h2 h' : Heap} {a x e : Addr} {o : HO}
theorem Un.any (u : Un fs ex H H1 h h1) {b : Addr} {ob : Obj} (q : h.get? b = some ob) (n : H b = none) (hx : b ∉ ex) : ∃ sl, h1.get? b = some { ob with slots := sl } := by
  by_cases hb : b ∈ fs
  · exact u.slot b ob q n hb hx
  · exact ⟨ob.slots, u.keep b ob q n hb hx⟩
theorem Un.kept (k : ∀ b u, h.get? b = some u → h'.get? b = some u) : Un fs ex H H h h' :=
  ⟨fun b ob q _ _ _ => k b ob q, fun b ob q _ _ _ => ⟨ob.slots, k b ob q⟩, fun _ _ _ n _ => n, fun b ob q _ => ⟨ob, k b ob q⟩, fun _ _ q => q, fun _ _ _ q => q, fun _ ps q => ⟨#[], by rw [q]; simp⟩⟩
theorem Un.refl : Un fs ex H H h h := Un.kept fun _ _ q => q
theorem Un.laid (k : ∀ b u, h.get? b = some u → h'.get? b = some u) (hp : h.objs.size ≤ a) (hn : H a = none) : Un fs ex H (upd H a o) h h' where
  keep := fun b u q _ _ _ => k b u q
  slot := fun b u q _ _ _ => ⟨u.slots, k b u q⟩
  free := fun b u q n _ => by rw [upd_ne (Nat.ne_of_lt (Nat.lt_of_lt_of_le (Heap.lt_size q) hp))]; exact n
  there := fun b u q _ => ⟨u, k b u q⟩
  tups := fun b xs q => by rw [upd_ne (ne_of_none q hn)]; exact q
  frzs := fun b u xs q => by rw [upd_ne (ne_of_none q hn)]; exact q
  tbls := fun b ps q => ⟨#[], by rw [upd_ne (ne_of_none q hn), q]; simp⟩
theorem Un.write (mu : Mut (H x)) (he : e = x ∨ H e = some (.own x)) (k : ∀ b u, b ≠ e → h.get? b = some u → h'.get? b = some u) (heo : ∃ u, h'.get? e = some u) : Un fs ex H (upd H x o) h h' := by
  have hx : ∀ b, H b = none → b ≠ x := fun b n z => by subst z; rw [n] at mu; exact mu
  have hb : ∀ b, H b = none → b ≠ e := fun b n z => by
    subst z
    rcases he with r | r
    · exact hx b n r
    · rw [n] at r; cases r
  have hm : ∀ b u, H b = some u → ¬ Mut (some u) → b ≠ x := fun b u q nm z => by subst z; rw [q] at mu; exact nm mu
  refine ⟨fun b u q n _ _ => k b u (hb b n) q, fun b u q n _ _ => ⟨u.slots, k b u (hb b n) q⟩, fun b u q n _ => by rw [upd_ne (hx b n)]; exact n, fun b u q _ => ?_,
    fun b xs q => by rw [upd_ne (hm b _ q fun z => z)]; exact q, fun b u xs q => by rw [upd_ne (hm b _ q fun z => z)]; exact q, fun b ps q => ⟨#[], by rw [upd_ne (hm b _ q fun z => z), q]; simp⟩⟩
  by_cases hbe : b = e
  · subst hbe; exact heo
  · exact ⟨u, k b u hbe q⟩
end

/-! ### the heap without what is tracked -/
noncomputable def trk (h : Heap) (H : Hp) : List Addr := (List.range h.objs.size).filter fun a => (H a).isSome
noncomputable def hidT (h : Heap) (H : Hp) : Heap := PySem.W.hideAll h (trk h H)
theorem hidT_size (h : Heap) (H : Hp) : (hidT h H).objs.size = h.objs.size := PySem.W.hideAll_size _ _
theorem hidT_get {h : Heap} {H : Hp} {b : Addr} {o : Obj} (e : h.get? b = some o) (n : H b = none) : (hidT h H).get? b = some o :=
  PySem.W.hideAll_get _ e fun hm => by
    have q : (H b).isSome = true := (List.mem_filter.mp hm).2
    rw [n] at q; simp at q
theorem of_hidT {h : Heap} {H : Hp} {b : Addr} {o : Obj} (e : (hidT h H).get? b = some o) : h.get? b = some o ∧ H b = none := by
  have e' : h.get? b = some o := PySem.W.of_hideAll (trk h H) e
  refine ⟨e', ?_⟩
  cases q : H b with
  | none => rfl
  | some x =>
    have hm : b ∈ trk h H := List.mem_filter.mpr ⟨List.mem_range.mpr (Heap.lt_size e'), by simp [q]⟩
    have z : (hidT h H).get? b = none := PySem.W.hideAll_none (trk h H) hm
    rw [z] at e; cases e

/-! ### OpenK's ledger, filled with every new object but one -/
end L2

namespace L2
open PySem PySem.Spec PyProof.Rows

/-- the module's facts, over the base: the heap at the law's entry without what is tracked there -/
structure Mod (K : PySem.W.Frag) (mg : Str → Option Value) (base : Heap) : Prop where
  kin : K.In base
  glob : base.Ns mainGlobals mg
  blt : ∃ mb, base.Ns builtinsNs mb ∧ ∀ x : Str, x ≠ "__name__" → mb x = bootBuiltins x
  nolimit : base.NoLimit

/-- the context: a def's body (or a comprehension's block) running. base: fixed through the whole law; s₀, H₀: the entry; outer: the frames whose slots others may change (a def's callers); stack: all frames that run;
   ex: iterators that were made ahead of the entry and are walked here (a comprehension's); fn: the names whose cells were made at the entry (a def: all; a comprehension's block: its own); calm: not within an except suite; pn: pins that every state bears; xe: what is wanted of an exception that leaves the code -/
structure Cx where
  prog : Program
  w : World
  K : PySem.W.Frag
  mg : Str → Option Value
  base : Heap
  A : Around
  N : List Str
  s₀ : Shared
  H₀ : Hp
  env : Env
  outer : List Env
  stack : List Env
  ex : List Addr
  fn : Str → Bool
  calm : Bool
  pn : List (Addr × Obj)
  xe : Value → Shared → Prop
/-- the callers' frames -/
noncomputable def frs (l : List Env) : List Addr := l.filterMap (·.frame)
noncomputable abbrev Cx.fs (X : Cx) : List Addr := frs X.outer

noncomputable def Vis (sc : Scope) (x : Str) : Prop := sc.names.lookup x = some .local ∨ sc.names.lookup x = some .cell ∨ sc.names.lookup x = some .free
noncomputable def Loc (sc : Scope) (x : Str) : Prop := sc.names.lookup x = some .local ∨ sc.names.lookup x = some .cell
noncomputable def Look (env : Env) (h : Heap) (m : Str → Option Value) (x : Str) (u : Value) : Prop :=
  (env.kindOf x = some .local ∧ m x = some u) ∨ ((env.kindOf x = some .cell ∨ env.kindOf x = some .free) ∧ ∃ c, env.cells.lookup x = some c ∧ h.IsCell c (some u))

structure Cx.Ok (X : Cx) : Prop where
  mod : Mod X.K X.mg X.base
  kind : X.env.scope.kind = .function
  glob : X.env.globals = mainGlobals
  blt : X.env.builtins = builtinsNs
  above : X.s₀.heap.objs.size ≤ X.env.locals
  inj : ∀ x y c, X.env.cells.lookup x = some c → X.env.cells.lookup y = some c → x = y
  has : ∀ x, (X.env.kindOf x = some .cell ∨ X.env.kindOf x = some .free) → ∃ c, X.env.cells.lookup x = some c
  cab : ∀ x c, X.fn x = true → X.env.cells.lookup x = some c → X.s₀.heap.objs.size ≤ c
  hd : X.calm = true → X.A.handled = none
  frames : X.A.frames = some X.stack
  stk : X.stack = X.outer ∨ (X.stack = X.env :: X.outer ∧ X.env.frame = some X.env.locals)
  exf : ∀ b ∈ X.ex, b ≠ X.env.locals ∧ ∀ x c, X.env.cells.lookup x = some c → c ≠ b
  bs : ∀ b o, X.base.get? b = some o → X.s₀.heap.get? b = some o ∧ X.H₀ b = none
  bsz : X.base.objs.size ≤ X.s₀.heap.objs.size
  noex : ∀ b o, X.base.get? b = some o → b ∉ X.ex
  exfs : ∀ b ∈ X.ex, b ∉ X.fs
  funs : X.s₀.heap.FunFrames X.base X.outer
  frf : ∀ b ∈ X.fs, X.H₀ b = none

structure Inv (X : Cx) (pins : List (Addr × Obj)) (σ : List (Option V)) (H : Hp) (s : Shared) : Prop where
  ok : X.Ok
  os : s.os = X.s₀.os
  bare : AllBare s.gens
  base : Un X.fs X.ex X.H₀ H X.s₀.heap s.heap
  loc : ∃ m, s.heap.Ns X.env.locals m ∧ ∀ (i : Nat) (x : Str) (v : V), X.N[i]? = some x → σ[i]? = some (some v) → Vis X.env.scope x → ∃ u, RelV v u ∧ Look X.env s.heap m x u
  cell : ∀ x c, X.env.cells.lookup x = some c → ∃ v, s.heap.IsCell c v
  free : H X.env.locals = none
  freeC : ∀ x c, X.env.cells.lookup x = some c → H c = none
  pin : ∀ p ∈ X.pn ++ pins, s.heap.get? p.1 = some p.2 ∧ H p.1 = none ∧ p.1 ≠ X.env.locals ∧ p.1 ∉ X.fs ∧ ∀ v, p.2.data ≠ .cell v
  hok : HOk X.prog X.w H s.heap
  len : σ.length = X.N.length

section
variable {X : Cx} {pins : List (Addr × Obj)} {σ : List (Option V)} {H H' : Hp} {s : Shared} {h' : Heap}

theorem Cx.Ok.nofr (ok : X.Ok) {b : Addr} {o : Obj} (e : X.base.get? b = some o) : b ∉ X.fs := fun hb => by
  have := (ok.funs.mem hb).1
  rw [e] at this; cases this
theorem Inv.bs (I : Inv X pins σ H s) : ∀ b o, X.base.get? b = some o → s.heap.get? b = some o ∧ H b = none := fun b o e =>
  ⟨I.base.keep b o (I.ok.bs b o e).1 (I.ok.bs b o e).2 (I.ok.nofr e) (I.ok.noex b o e), I.base.free b o (I.ok.bs b o e).1 (I.ok.bs b o e).2 (I.ok.noex b o e)⟩
theorem Inv.bk (I : Inv X pins σ H s) : ∀ b o, X.base.get? b = some o → s.heap.get? b = some o := fun b o e => (I.bs b o e).1
theorem Inv.mod (I : Inv X pins σ H s) : Mod X.K X.mg X.base := I.ok.mod
theorem Inv.kIn (I : Inv X pins σ H s) : X.K.In s.heap := I.ok.mod.kin.keeps I.bk
theorem Inv.lt (I : Inv X pins σ H s) : X.env.locals < s.heap.objs.size := let ⟨_, hn, _⟩ := I.loc; hn.lt
theorem Inv.sz (I : Inv X pins σ H s) : X.s₀.heap.objs.size ≤ s.heap.objs.size := Nat.le_trans I.ok.above (Nat.le_of_lt I.lt)
theorem Inv.nofs (I : Inv X pins σ H s) {a : Addr} (h : s.heap.objs.size ≤ a) : a ∉ X.fs := fun hb => by
  obtain ⟨_, o, ho, _⟩ := I.ok.funs.mem hb
  exact absurd (Nat.lt_of_lt_of_le (Heap.lt_size ho) (Nat.le_trans I.sz h)) (Nat.lt_irrefl _)
theorem Inv.cne (I : Inv X pins σ H s) : ∀ x c, X.env.cells.lookup x = some c → c ≠ X.env.locals := fun x c e z => by
  obtain ⟨v, o, ho, hd⟩ := I.cell x c e
  obtain ⟨m, ⟨o', es, ep, ho', hd', _⟩, _⟩ := I.loc
  rw [z, ho'] at ho; cases ho; rw [hd'] at hd; cases hd
theorem Inv.funs (I : Inv X pins σ H s) : s.heap.FunFrames X.base X.outer := by
  have all : ∀ (l : List Env), (∀ b ∈ frs l, b ∈ X.fs) → X.s₀.heap.FunFrames X.base l → s.heap.FunFrames X.base l := by
    intro l
    induction l with
    | nil => intro _ _; trivial
    | cons env r ih =>
      intro hs hl
      obtain ⟨hk, ⟨L, o, hf, hn, ho, hd⟩, hr⟩ := hl
      have hL : L ∈ X.fs := hs L (by unfold frs; rw [List.filterMap_cons, hf]; exact List.mem_cons_self)
      obtain ⟨sl, e⟩ := I.base.slot L o ho (I.ok.frf L hL) hL fun z => I.ok.exfs L z hL
      exact ⟨hk, ⟨L, _, hf, hn, e, hd⟩, ih (fun b hb => hs b (by unfold frs; rw [List.filterMap_cons, hf]; exact List.mem_cons_of_mem _ hb)) hr⟩
  exact all X.outer (fun _ hb => hb) I.ok.funs

/-- the frames that run, for a call -/
theorem Inv.stack (I : Inv X pins σ H s) : s.heap.FunFrames X.base X.stack := by
  rcases I.ok.stk with e | ⟨e, hf⟩
  · rw [e]; exact I.funs
  · rw [e]
    obtain ⟨m, hn, _⟩ := I.loc
    refine .cons (by rw [I.ok.kind]; decide) hf hn ?_ I.funs
    exact Heap.get?_none_of_le (Nat.le_trans I.ok.bsz I.ok.above)
theorem Inv.stkSub (I : Inv X pins σ H s) : ∀ b ∈ frs X.stack, b ∈ X.env.locals :: X.fs := fun b hb => by
  rcases I.ok.stk with e | ⟨e, hf⟩
  · rw [e] at hb; exact List.mem_cons_of_mem _ hb
  · rw [e] at hb
    unfold frs at hb
    rw [List.filterMap_cons, hf] at hb
    exact hb
theorem Inv.stkFree (I : Inv X pins σ H s) : ∀ b ∈ frs X.stack, H b = none := fun b hb => by
  rcases List.mem_cons.mp (I.stkSub b hb) with e | hb
  · rw [e]; exact I.free
  · obtain ⟨_, o, ho, _⟩ := I.ok.funs.mem hb
    exact I.base.free b o ho (I.ok.frf b hb) fun z => I.ok.exfs b z hb

/-- THE STEP: the untracked objects but the frame and the records at ch are kept (the callers' frames up to slots), the frame's map is kept, the new abstract heap is held -/
theorem Inv.step {g' : Array GenState} {t' : Nat} {d' : Drawn} {ch : List Addr} (I : Inv X pins σ H s)
    (hch : ∀ b ∈ ch, (b ∈ X.ex ∨ X.s₀.heap.objs.size ≤ b) ∧ b ≠ X.env.locals ∧ (∀ x c, X.env.cells.lookup x = some c → c ≠ b) ∧ ∀ p ∈ X.pn ++ pins, p.1 ≠ b)
    (keep : ∀ b o, b ≠ X.env.locals → b ∉ X.fs → b ∉ ch → s.heap.get? b = some o → H b = none → h'.get? b = some o)
    (slot : ∀ b o, b ≠ X.env.locals → b ∈ X.fs → b ∉ ch → s.heap.get? b = some o → H b = none → ∃ sl, h'.get? b = some { o with slots := sl }) (free : ∀ b o, b ∉ ch → s.heap.get? b = some o → H b = none → H' b = none)
    (there : ∀ b o, b ∉ ch → s.heap.get? b = some o → ∃ o', h'.get? b = some o')
    (tups : ∀ b xs, H b = some (.tup xs) → H' b = some (.tup xs)) (frzs : ∀ b o u, H b = some (.frz o u) → H' b = some (.frz o u)) (tbls : ∀ b ps, H b = some (.tbl ps) → ∃ more, H' b = some (.tbl (ps ++ more)))
    (ns : ∀ m, s.heap.Ns X.env.locals m → h'.Ns X.env.locals m) (hok : HOk X.prog X.w H' h') (hg : AllBare g') :
    Inv X pins σ H' { s with heap := h', gens := g', drawn := d', toks := t' } := by
  have neL : ∀ b o, X.s₀.heap.get? b = some o → b ≠ X.env.locals := fun b o e => Nat.ne_of_lt (Nat.lt_of_lt_of_le (Heap.lt_size e) I.ok.above)
  have neC : ∀ b o, X.s₀.heap.get? b = some o → b ∉ X.ex → b ∉ ch := fun b o e hx hb => by
    rcases (hch b hb).1 with z | z
    · exact hx z
    · exact absurd (Nat.lt_of_lt_of_le (Heap.lt_size e) z) (Nat.lt_irrefl _)
  have cellK : ∀ x c, X.env.cells.lookup x = some c → ∀ v, s.heap.IsCell c v → h'.IsCell c v := fun x c e v ⟨o, ho, hd⟩ => by
    have nch : c ∉ ch := fun z => (hch c z).2.2.1 x c e rfl
    by_cases hc : c ∈ X.fs
    · obtain ⟨sl, q⟩ := slot c o (I.cne x c e) hc nch ho (I.freeC x c e)
      exact ⟨_, q, hd⟩
    · exact ⟨o, keep c o (I.cne x c e) hc nch ho (I.freeC x c e), hd⟩
  refine ⟨I.ok, I.os, hg, ⟨fun b o e n hb hx => ?_, fun b o e n hb hx => ?_, fun b o e n hx => ?_, fun b o e hx => ?_, fun b xs e => tups b xs (I.base.tups b xs e), fun b o xs e => frzs b o xs (I.base.frzs b o xs e), fun b ps e => ?_⟩, ?_, fun x c e => ?_, ?_, fun x c e => ?_, fun p hp => ?_, hok, I.len⟩
  · exact keep b o (neL b o e) hb (neC b o e hx) (I.base.keep b o e n hb hx) (I.base.free b o e n hx)
  · obtain ⟨sl, e1⟩ := I.base.slot b o e n hb hx
    obtain ⟨sl', e2⟩ := slot b _ (neL b o e) hb (neC b o e hx) e1 (I.base.free b o e n hx)
    exact ⟨sl', e2⟩
  · obtain ⟨o', e1⟩ := I.base.there b o e hx
    exact free b o' (neC b o e hx) e1 (I.base.free b o e n hx)
  · obtain ⟨o', e1⟩ := I.base.there b o e hx
    exact there b o' (neC b o e hx) e1
  · obtain ⟨m1, e1⟩ := I.base.tbls b ps e
    obtain ⟨m2, e2⟩ := tbls b _ e1
    exact ⟨m1 ++ m2, by rw [e2, Array.append_assoc]⟩
  · obtain ⟨m, hn, hl⟩ := I.loc
    refine ⟨m, ns m hn, fun i x v e1 e2 e3 => ?_⟩
    obtain ⟨u, r, l⟩ := hl i x v e1 e2 e3
    refine ⟨u, r, ?_⟩
    rcases l with l | ⟨k, c, e, z⟩
    · exact .inl l
    · exact .inr ⟨k, c, e, cellK x c e _ z⟩
  · obtain ⟨v, z⟩ := I.cell x c e
    exact ⟨v, cellK x c e v z⟩
  · obtain ⟨m, ⟨o, _, _, ho, _⟩, _⟩ := I.loc
    exact free _ o (fun z => (hch _ z).2.1 rfl) ho I.free
  · obtain ⟨v, o, ho, hd⟩ := I.cell x c e
    exact free c o (fun z => (hch c z).2.2.1 x c e rfl) ho (I.freeC x c e)
  · obtain ⟨e, n, ne, nf, d⟩ := I.pin p hp
    have nch : p.1 ∉ ch := fun z => (hch p.1 z).2.2.2 p hp rfl
    exact ⟨keep p.1 p.2 ne nf nch e n, free p.1 p.2 nch e n, ne, nf, d⟩
/-- .. where the frame's own object is kept too -/
theorem Inv.un {t' : Nat} (I : Inv X pins σ H s) (u : Un X.fs [] H H' s.heap h') (hok : HOk X.prog X.w H' h') : Inv X pins σ H' { s with heap := h', toks := t' } := by
  obtain ⟨m, ⟨o, es, ep, ho, r⟩, _⟩ := id I.loc
  obtain ⟨sl, hL⟩ := u.any ho I.free (by simp)
  exact I.step (g' := s.gens) (d' := s.drawn) (ch := []) (fun _ z => nomatch z) (fun b o _ hb _ e n => u.keep b o e n hb (by simp)) (fun b o _ hb _ e n => u.slot b o e n hb (by simp)) (fun b o _ e n => u.free b o e n (by simp)) (fun b o _ e => u.there b o e (by simp)) u.tups u.frzs u.tbls (fun m' hm => by
    obtain ⟨o', es', ep', ho', r'⟩ := hm
    rw [ho] at ho'; cases ho'
    exact ⟨_, es', ep', hL, r'⟩) hok I.bare
/-- behind a call (or a comprehension's block): the slots of this frame may have changed too, the records at ch may have turned -/
theorem Inv.call {g' : Array GenState} {t' : Nat} {d' : Drawn} {ch : List Addr} (I : Inv X pins σ H s) (u : Un (frs X.stack) ch H H' s.heap h') (hok : HOk X.prog X.w H' h') (hg : AllBare g')
    (hch : ∀ b ∈ ch, (b ∈ X.ex ∨ X.s₀.heap.objs.size ≤ b) ∧ b ≠ X.env.locals ∧ (∀ x c, X.env.cells.lookup x = some c → c ≠ b) ∧ ∀ p ∈ X.pn ++ pins, p.1 ≠ b) :
    Inv X pins σ H' { s with heap := h', gens := g', drawn := d', toks := t' } := by
  obtain ⟨m, ⟨o, es, ep, ho, r⟩, _⟩ := id I.loc
  obtain ⟨sl, hL⟩ := u.any ho I.free fun z => (hch _ z).2.1 rfl
  exact I.step (ch := ch) hch (fun b o hL hb hc e n => u.keep b o e n (fun z => (List.mem_cons.mp (I.stkSub b z)).elim hL hb) hc) (fun b o _ _ hc e n => u.any e n hc) (fun b o hc e n => u.free b o e n hc) (fun b o hc e => u.there b o e hc) u.tups u.frzs u.tbls (fun m' hm => by
    obtain ⟨o', es', ep', ho', r'⟩ := hm
    rw [ho] at ho'; cases ho'
    exact ⟨_, es', ep', hL, r'⟩) hok hg
/-- an untracked record of ours (an iterator) has turned -/
theorem Inv.turned {t' : Nat} {it : Addr} (I : Inv X pins σ H s) (k : ∀ b o, b ≠ it → s.heap.get? b = some o → h'.get? b = some o) (hn : H it = none) (hL : it ≠ X.env.locals)
    (h1 : it ∈ X.ex ∨ X.s₀.heap.objs.size ≤ it) (h2 : ∀ x c, X.env.cells.lookup x = some c → c ≠ it) (h3 : ∀ p ∈ X.pn ++ pins, p.1 ≠ it) : Inv X pins σ H { s with heap := h', toks := t' } := by
  have nit : ∀ b u, H b = some u → b ≠ it := fun b u e z => by rw [z, hn] at e; cases e
  refine I.step (g' := s.gens) (d' := s.drawn) (ch := [it]) (fun b hb => ?_) (fun b o _ _ hc e _ => k b o (fun z => hc (by simp [z])) e) (fun b o _ _ hc e _ => ⟨o.slots, k b o (fun z => hc (by simp [z])) e⟩) (fun _ _ _ _ n => n)
    (fun b o hc e => ⟨o, k b o (fun z => hc (by simp [z])) e⟩) (fun _ _ e => e) (fun _ _ _ e => e) (fun b ps e => ⟨#[], by rw [e]; simp⟩) (fun m hm => ?_) (fun b u e => ?_) I.bare
  · have e : b = it := by simpa using hb
    subst e
    exact ⟨h1, hL, h2, h3⟩
  · obtain ⟨o, es, ep, ho, r⟩ := hm
    exact ⟨o, es, ep, k _ o (Ne.symm hL) ho, r⟩
  · refine (I.hok b u e).stay (fun c v hc q => k c v ?_ q) (fun _ q => q) fun _ _ q => q
    rcases hc with z | z
    · rw [z]; exact nit b u e
    · exact nit c _ z
theorem Inv.tok (I : Inv X pins σ H s) (t : Nat) : Inv X pins σ H { s with toks := t } := I.un (h' := s.heap) (t' := t) Un.refl I.hok
/-- all objects kept -/
theorem Inv.kept {t' : Nat} (I : Inv X pins σ H s) (k : ∀ b u, s.heap.get? b = some u → h'.get? b = some u) : Inv X pins σ H { s with heap := h', toks := t' } := I.un (Un.kept k) (I.hok.kept k)
/-- a new object laid and tracked -/
theorem Inv.laid {a : Addr} {o : HO} {t' : Nat} (I : Inv X pins σ H s) (k : ∀ b u, s.heap.get? b = some u → h'.get? b = some u) (hp : s.heap.objs.size ≤ a) (new : ObjOk X.prog X.w (upd H a o) h' a o) :
    Inv X pins σ (upd H a o) { s with heap := h', toks := t' } := I.un (Un.laid k hp (I.hok.fresh hp)) (I.hok.laid k hp new)
/-- an object written -/
theorem Inv.write {x e : Addr} {o : HO} {t' : Nat} (I : Inv X pins σ H s) (mu : Mut (H x)) (he : e = x ∨ H e = some (.own x)) (k : ∀ b u, b ≠ e → s.heap.get? b = some u → h'.get? b = some u) (heo : ∃ u, h'.get? e = some u)
    (new : ObjOk X.prog X.w (upd H x o) h' x o) : Inv X pins σ (upd H x o) { s with heap := h', toks := t' } := I.un (Un.write mu he k heo) (I.hok.write mu he k heo new)
theorem Inv.pins_of {pins' : List (Addr × Obj)} (I : Inv X pins σ H s) (h : ∀ p ∈ pins', s.heap.get? p.1 = some p.2 ∧ H p.1 = none ∧ p.1 ≠ X.env.locals ∧ p.1 ∉ X.fs ∧ ∀ v, p.2.data ≠ .cell v) : Inv X pins' σ H s :=
  ⟨I.ok, I.os, I.bare, I.base, I.loc, I.cell, I.free, I.freeC, fun p hp => (List.mem_append.mp hp).elim (fun z => I.pin p (List.mem_append_left _ z)) (h p), I.hok, I.len⟩

theorem nodup_ix {N : List Str} (hN : N.Nodup) {i j : Nat} {x : Str} (a : N[i]? = some x) (b : N[j]? = some x) : i = j := by
  obtain ⟨h1, e1⟩ := List.getElem?_eq_some_iff.mp a
  obtain ⟨h2, e2⟩ := List.getElem?_eq_some_iff.mp b
  exact (List.getElem_inj hN).mp (e1.trans e2.symm)

/-- a name is stored; what changed -/
theorem store_ok2 {M : Model} {A : Around} {E : Value → Shared → Prop} {i : Nat} {x : Str} {v : V} {u : Value} {Q : Unit → Shared → Prop} (I : Inv X pins σ H s) (hN : X.N.Nodup) (hi : X.N[i]? = some x) (hx : Loc X.env.scope x) (r : RelV v u)
    (h : ∀ s', Inv X pins (σ.set i (some v)) H s' → (∃ a, Heap.SameBut a s.heap s'.heap ∧ (a = X.env.locals ∨ X.env.cells.lookup x = some a)) → Q () s') (hf : X.fn x = true ∨ X.env.scope.names.lookup x = some .local := by first | exact .inl rfl | exact .inr rfl | assumption) : wpAny M A (storeName X.env x u) Q E s := by
  obtain ⟨m, hn, hl⟩ := id I.loc
  have hcls : (X.env.scope.kind == .class || (X.env.scope.kind == .module && X.env.locals != X.env.globals)) = false := by rw [I.ok.kind]; rfl
  have hiσ : i < σ.length := by rw [I.len]; exact (List.getElem?_eq_some_iff.mp hi).1
  have cne := I.cne
  have tracked : ∀ {a : Addr} {h' : Heap}, (∃ o, s.heap.get? a = some o ∧ H a = none) → Heap.SameBut a s.heap h' → HOk X.prog X.w H h' := fun {a h'} ha hs b ob e => by
    obtain ⟨_, _, hfree⟩ := ha
    refine (I.hok b ob e).stay (fun c w' hc q => (hs.2 c ?_).trans q) (fun _ q => q) fun _ _ q => q
    rintro rfl
    rcases hc with rfl | hc
    · rw [hfree] at e; cases e
    · rw [hfree] at hc; cases hc
  rcases hx with hk | hk
  · refine wpAny_storeName_local hk hn (fun h' hn' hs => ?_) hcls
    obtain ⟨oL, _, _, hoL, _⟩ := id hn
    refine h _ ⟨I.ok, I.os, I.bare, ⟨fun b o e n hb hx => ?_, fun b o e n hb hx => ?_, I.base.free, fun b o e hx => ?_, I.base.tups, I.base.frzs, I.base.tbls⟩, ⟨_, hn', fun j y v' e1 e2 e3 => ?_⟩, fun y c e => ?_, I.free, I.freeC, fun p hp => ?_, tracked ⟨oL, hoL, I.free⟩ hs, by simpa using I.len⟩ ⟨_, hs, .inl rfl⟩
    · exact (hs.2 b (Nat.ne_of_lt (Nat.lt_of_lt_of_le (Heap.lt_size e) I.ok.above))).trans (I.base.keep b o e n hb hx)
    · obtain ⟨sl, e1⟩ := I.base.slot b o e n hb hx
      exact ⟨sl, (hs.2 b (Nat.ne_of_lt (Nat.lt_of_lt_of_le (Heap.lt_size e) I.ok.above))).trans e1⟩
    · obtain ⟨o', e1⟩ := I.base.there b o e hx
      exact ⟨o', (hs.2 b (Nat.ne_of_lt (Nat.lt_of_lt_of_le (Heap.lt_size e) I.ok.above))).trans e1⟩
    · by_cases hj : j = i
      · subst hj
        rw [hi] at e1; cases e1
        rw [List.getElem?_set_self hiσ] at e2
        cases e2
        exact ⟨u, r, .inl ⟨hk, by simp⟩⟩
      · rw [List.getElem?_set_ne (Ne.symm hj)] at e2
        obtain ⟨u', r', q⟩ := hl j y v' e1 e2 e3
        refine ⟨u', r', ?_⟩
        rcases q with ⟨k, e⟩ | ⟨k, c, e, z⟩
        · refine .inl ⟨k, ?_⟩
          have : y ≠ x := fun e => hj (nodup_ix hN e1 (e ▸ hi))
          simp [this, e]
        · exact .inr ⟨k, c, e, z.sameBut hs (cne y c e)⟩
    · obtain ⟨w', z⟩ := I.cell y c e
      exact ⟨w', z.sameBut hs (cne y c e)⟩
    · obtain ⟨e, n, ne, nf, d⟩ := I.pin p hp
      exact ⟨(hs.2 p.1 ne).trans e, n, ne, nf, d⟩
  · have hfn : X.fn x = true := by
      rcases hf with z | z
      · exact z
      · rw [z] at hk; cases hk
    obtain ⟨c, hc⟩ := I.ok.has x (.inl hk)
    obtain ⟨w', z⟩ := I.cell x c hc
    refine wpAny_storeName_cell I.ok.kind hk hc z (fun h' hc' hs => ?_)
    obtain ⟨oc, hoc, hocd⟩ := id z
    refine h { s with heap := h' } ⟨I.ok, I.os, I.bare, ⟨fun b o e n hb hx => ?_, fun b o e n hb hx => ?_, I.base.free, fun b o e hx => ?_, I.base.tups, I.base.frzs, I.base.tbls⟩, ⟨m, hn.sameBut hs (Ne.symm (cne x c hc)), fun j y v' e1 e2 e3 => ?_⟩, fun y c' e => ?_, I.free, I.freeC, fun p hp => ?_, tracked ⟨oc, hoc, I.freeC x c hc⟩ hs, by simpa using I.len⟩ ⟨c, hs, .inr hc⟩
    · exact (hs.2 b (Nat.ne_of_lt (Nat.lt_of_lt_of_le (Heap.lt_size e) (I.ok.cab x c hfn hc)))).trans (I.base.keep b o e n hb hx)
    · obtain ⟨sl, e1⟩ := I.base.slot b o e n hb hx
      exact ⟨sl, (hs.2 b (Nat.ne_of_lt (Nat.lt_of_lt_of_le (Heap.lt_size e) (I.ok.cab x c hfn hc)))).trans e1⟩
    · obtain ⟨o', e1⟩ := I.base.there b o e hx
      exact ⟨o', (hs.2 b (Nat.ne_of_lt (Nat.lt_of_lt_of_le (Heap.lt_size e) (I.ok.cab x c hfn hc)))).trans e1⟩
    · by_cases hj : j = i
      · subst hj
        rw [hi] at e1; cases e1
        rw [List.getElem?_set_self hiσ] at e2
        cases e2
        exact ⟨u, r, .inr ⟨.inl hk, c, hc, hc'⟩⟩
      · rw [List.getElem?_set_ne (Ne.symm hj)] at e2
        obtain ⟨u', r', q⟩ := hl j y v' e1 e2 e3
        refine ⟨u', r', ?_⟩
        rcases q with q | ⟨k, c', e, z'⟩
        · exact .inl q
        · refine .inr ⟨k, c', e, z'.sameBut hs ?_⟩
          rintro rfl
          exact hj (nodup_ix hN e1 (I.ok.inj _ _ _ e hc ▸ hi))
    · by_cases hcc : c' = c
      · subst hcc; exact ⟨_, hc'⟩
      · obtain ⟨w2, z2⟩ := I.cell y c' e
        exact ⟨w2, z2.sameBut hs hcc⟩
    · obtain ⟨e, n, ne, nf, d⟩ := I.pin p hp
      refine ⟨(hs.2 p.1 ?_).trans e, n, ne, nf, d⟩
      intro q
      rw [q, hoc] at e
      have q' : oc = p.2 := Option.some.inj e
      exact d w' (by rw [← q']; exact hocd)
theorem store_ok {M : Model} {A : Around} {E : Value → Shared → Prop} {i : Nat} {x : Str} {v : V} {u : Value} {Q : Unit → Shared → Prop} (I : Inv X pins σ H s) (hN : X.N.Nodup) (hi : X.N[i]? = some x) (hx : Loc X.env.scope x) (r : RelV v u)
    (h : ∀ s', Inv X pins (σ.set i (some v)) H s' → Q () s') (hf : X.fn x = true ∨ X.env.scope.names.lookup x = some .local := by first | exact .inl rfl | exact .inr rfl | assumption) : wpAny M A (storeName X.env x u) Q E s :=
  store_ok2 I hN hi hx r (fun s' I' _ => h s' I') hf
/-- behind a call or a block, the state as it is -/
theorem Inv.call' {s' : Shared} {ch : List Addr} (I : Inv X pins σ H s) (ho : s'.os = s.os) (u : Un (frs X.stack) ch H H' s.heap s'.heap) (hok : HOk X.prog X.w H' s'.heap) (hg : AllBare s'.gens)
    (hch : ∀ b ∈ ch, (b ∈ X.ex ∨ X.s₀.heap.objs.size ≤ b) ∧ b ≠ X.env.locals ∧ (∀ x c, X.env.cells.lookup x = some c → c ≠ b) ∧ ∀ p ∈ X.pn ++ pins, p.1 ≠ b) : Inv X pins σ H' s' := by
  obtain ⟨h', g', d', t', o'⟩ := s'
  have e : o' = s.os := ho
  subst e
  exact I.call (g' := g') (t' := t') (d' := d') u hok hg hch
end

/-! ### the judgements -/
/-- an exception: its class, its own dict's address (where it has one), the abstract heap behind it -/
noncomputable abbrev XK := Value → Option Addr → Hp → Prop
noncomputable abbrev St := List (Option V)
noncomputable abbrev VK := V → Hp → Prop
/-- an expression's reading; a test's; an argument list's -/
noncomputable abbrev TE := St → Hp → VK → Prop
noncomputable abbrev TT := St → Hp → (Bool → Hp → Prop) → Prop
noncomputable abbrev TA := St → Hp → (List V → Hp → Prop) → Prop
/-- what is wanted behind a statement -/
structure Ends where
  nx : St → Hp → Prop
  rt : VK
  bk : St → Hp → Prop := fun _ _ => False
  ct : St → Hp → Prop := fun _ _ => False
noncomputable abbrev TS := Ends → St → Hp → Prop

noncomputable def EP (X : Cx) (pins : List (Addr × Obj)) (σ : St) (Q : VK) (u : Value) (s' : Shared) : Prop := ∃ v H', Inv X pins σ H' s' ∧ RelV v u ∧ Q v H'
noncomputable def TP (X : Cx) (pins : List (Addr × Obj)) (σ : St) (Q : Bool → Hp → Prop) (b : Bool) (s' : Shared) : Prop := ∃ H', Inv X pins σ H' s' ∧ Q b H'
noncomputable def AP (X : Cx) (pins : List (Addr × Obj)) (σ : St) (Q : List V → Hp → Prop) (us : List Value) (s' : Shared) : Prop := ∃ vs H', Inv X pins σ H' s' ∧ Vals vs us ∧ Q vs H'
noncomputable def SP (X : Cx) (pins : List (Addr × Obj)) (D : Ends) (f : Flow) (s' : Shared) : Prop :=
  match f with
  | .next => ∃ σ' H', Inv X pins σ' H' s' ∧ D.nx σ' H'
  | .brk => ∃ σ' H', Inv X pins σ' H' s' ∧ D.bk σ' H'
  | .cont => ∃ σ' H', Inv X pins σ' H' s' ∧ D.ct σ' H'
  | .ret u => ∃ v σ' H', Inv X pins σ' H' s' ∧ RelV v u ∧ D.rt v H'

noncomputable def PE (X : Cx) (e : Expr) (t : TE) : Prop :=
  ∀ (pins : List (Addr × Obj)) (s : Shared) (σ : St) (H : Hp) (Q : VK), Inv X pins σ H s → t σ H Q → wpAny (model X.prog X.w) X.A (eval e X.env) (EP X pins σ Q) X.xe s
noncomputable def PT (X : Cx) (e : Expr) (t : TT) : Prop :=
  ∀ (pins : List (Addr × Obj)) (s : Shared) (σ : St) (H : Hp) (Q : Bool → Hp → Prop), Inv X pins σ H s → t σ H Q → wpAny (model X.prog X.w) X.A (isTrue e X.env (eval e X.env)) (TP X pins σ Q) X.xe s
/-- a test whatever its 'whole' is (and, or) -/
noncomputable def PW (X : Cx) (e : Expr) (t : TT) : Prop :=
  ∀ (whole : Sem Value) (pins : List (Addr × Obj)) (s : Shared) (σ : St) (H : Hp) (Q : Bool → Hp → Prop), Inv X pins σ H s → t σ H Q → wpAny (model X.prog X.w) X.A (isTrue e X.env whole) (TP X pins σ Q) X.xe s
theorem PW.pt {X : Cx} {e : Expr} {t : TT} (h : PW X e t) : PT X e t := h _
/-- an argument list (no star), from the left -/
noncomputable def PA (X : Cx) (es : List Expr) (t : TA) : Prop :=
  ∀ (pos : Pos) (pins : List (Addr × Obj)) (s : Shared) (σ : St) (H : Hp) (Q : List V → Hp → Prop), Inv X pins σ H s → t σ H Q → wpAny (model X.prog X.w) X.A (spliced (backTo pos (starEach es X.env))) (AP X pins σ Q) X.xe s
noncomputable def PS (X : Cx) (st : Stmt) (t : TS) : Prop :=
  ∀ (pins : List (Addr × Obj)) (s : Shared) (σ : St) (H : Hp) (D : Ends), Inv X pins σ H s → t D σ H → wpAny (model X.prog X.w) X.A (exec st X.env) (SP X pins D) X.xe s
noncomputable def PSs (X : Cx) (st : List Stmt) (t : TS) : Prop :=
  ∀ (pins : List (Addr × Obj)) (s : Shared) (σ : St) (H : Hp) (D : Ends), Inv X pins σ H s → t D σ H → wpAny (model X.prog X.w) X.A (execs st X.env) (SP X pins D) X.xe s
/-- weaken the end -/
theorem thn {α : Type} {t : Sem α} {Q Q' : α → Shared → Prop} {M : Model} {A : Around} {E : Value → Shared → Prop} {s : Shared} (h : wpAny M A t Q E s) (hQ : ∀ a s, Q a s → Q' a s) : wpAny M A t Q' E s := wpAny_mono h hQ fun _ _ x => x
end L2

namespace L2
open PySem PySem.Spec PyProof.Rows
section
variable {X : Cx}

/-- two expressions in a row -/
theorem bin {a b : Expr} {ta tb : TE} (ha : PE X a ta) (hb : PE X b tb) {pins : List (Addr × Obj)} {s : Shared} {σ : St} {H : Hp} {R : V → V → Hp → Prop} (I : Inv X pins σ H s) (h : ta σ H fun x H1 => tb σ H1 fun y H2 => R x y H2)
    {α : Type} {Q : α → Shared → Prop} {f : Value → Value → Sem α}
    (hf : ∀ v u s2 x y H2, Inv X pins σ H2 s2 → RelV x v → RelV y u → R x y H2 → wpAny (model X.prog X.w) X.A (f v u) Q X.xe s2) :
    wpAny (model X.prog X.w) X.A (eval a X.env) (fun v s₁ => wpAny (model X.prog X.w) X.A (eval b X.env) (fun u s₂ => wpAny (model X.prog X.w) X.A (f v u) Q X.xe s₂) X.xe s₁) X.xe s := by
  refine thn (ha pins s σ H _ I h) fun v s1 ⟨x, H1, I1, r1, q1⟩ => ?_
  refine thn (hb pins s1 σ H1 _ I1 q1) fun u s2 ⟨y, H2, I2, r2, q2⟩ => ?_
  exact hf v u s2 x y H2 I2 r1 r2 q2

/-! ### names and constants -/
noncomputable def tVar (i : Nat) : TE := fun σ H Q => ∃ v, σ[i]? = some (some v) ∧ Q v H
noncomputable def tC (v : V) : TE := fun _ H Q => Q v H
theorem pe_var {i : Nat} {x : Str} {pos : Pos} (hN : X.N[i]? = some x) (hv : Vis X.env.scope x) (hd : (x == ("__debug__" : Str)) = false := by decide) (hcd : (x == ("__classdict__" : Str)) = false := by decide) : PE X (.Name x pos) (tVar i) := by
  intro pins s σ H Q I h
  obtain ⟨v, e, h⟩ := h
  obtain ⟨m, hn, hl⟩ := I.loc
  obtain ⟨u, r, l⟩ := hl i x v hN e hv
  have fin : EP X pins σ Q u s := ⟨v, H, I, r, h⟩
  rcases l with ⟨hk, hm⟩ | ⟨hk, c, hc, hcell⟩
  · exact wpAny_Name (wpAny_loadName_local I.ok.kind hk hn hm fin) hd
  · rcases hk with hk | hk
    · exact wpAny_Name (wpAny_loadName_cell I.ok.kind hk hc hcell fin) hd
    · exact wpAny_Name (wpAny_loadName_free I.ok.kind hk hc hcell fin hcd) hd
theorem pe_int {i j pos} : PE X (.Constant (.int i) j pos) (tC (.int i)) := fun _ _ _ H _ I h => wpAny_Constant_int ⟨.int i, H, I.tok _, ⟨_, rfl⟩, h⟩
theorem pe_bl {b j pos} : PE X (.Constant (.bool b) j pos) (tC (.bl b)) := fun _ _ _ H _ I h => Constant_bool ⟨.bl b, H, I, rfl, h⟩
theorem pe_str {x j pos} : PE X (.Constant (.str x) j pos) (tC (.str x)) := fun _ _ _ H _ I h => Calls.Constant_str ⟨.str x, H, I.tok _, ⟨_, rfl⟩, h⟩

/-- a global name of the def -/
noncomputable def Gl (X : Cx) (x : Str) : Prop := X.env.kindOf x = some .globalImplicit
theorem ld_glob {E : Value → Shared → Prop} {pins : List (Addr × Obj)} {s : Shared} {σ : St} {H : Hp} {x : Str} {u : Value} {pos : Pos} {Q : Value → Shared → Prop} (I : Inv X pins σ H s) (hg : Gl X x) (hm : X.mg x = some u) (h : Q u s)
    (hd : (x == ("__debug__" : Str)) = false := by decide) : wpAny (model X.prog X.w) X.A (eval (.Name x pos) X.env) Q E s :=
  Calls.Name_function_global I.ok.kind hg (Calls.loadGlobal_global (by rw [I.ok.glob]; exact I.mod.glob.keeps I.bk) hm h) hd
theorem ld_blt {E : Value → Shared → Prop} {pins : List (Addr × Obj)} {s : Shared} {σ : St} {H : Hp} {x : Str} {u : Value} {pos : Pos} {Q : Value → Shared → Prop} (I : Inv X pins σ H s) (hg : Gl X x) (hm : X.mg x = none) (hv : bootBuiltins x = some u) (h : Q u s)
    (hn : x ≠ "__name__" := by decide) (hd : (x == ("__debug__" : Str)) = false := by decide) : wpAny (model X.prog X.w) X.A (eval (.Name x pos) X.env) Q E s := by
  obtain ⟨mb, h1, h2⟩ := I.mod.blt
  exact Calls.Name_function_global I.ok.kind hg (Calls.loadGlobal_builtin (by rw [I.ok.glob]; exact I.mod.glob.keeps I.bk) hm (by rw [I.ok.blt]; exact h1.keeps I.bk) ((h2 x hn).trans hv) h) hd
/-- a module's constant, a class, a function, as a value -/
theorem pe_glob {x : Str} {v : V} {u : Value} {pos : Pos} (hg : Gl X x) (hm : X.mg x = some u) (r : RelV v u) (hd : (x == ("__debug__" : Str)) = false := by decide) : PE X (.Name x pos) (tC v) :=
  fun _ _ _ H _ I h => ld_glob I hg hm ⟨v, H, I, r, h⟩ hd

/-! ### arithmetic -/
variable {a b : Expr} {ta tb : TE} {pos : Pos}

/-! ### comparisons -/

/-! ### and, or, not -/
variable {tA tB' : TT} {rest : List Expr}
noncomputable def tAnd (t u : TT) : TT := fun σ H Q => t σ H fun c H1 => if c = true then u σ H1 Q else Q false H1
noncomputable def tOr (t u : TT) : TT := fun σ H Q => t σ H fun c H1 => if c = true then Q true H1 else u σ H1 Q
noncomputable def tNot (t : TT) : TT := fun σ H Q => t σ H fun c H1 => Q (!c) H1
theorem pw_and1 (ha : PT X a tA) : PW X (.BoolOp .And [a] pos) tA := by
  intro wh pins s σ H Q I h
  refine isTrue_and (thn (ha pins s σ H Q I h) fun c s1 e => ?_)
  cases c with
  | true => exact isTrue_and_nil e
  | false => exact e
theorem pw_or1 (ha : PT X a tA) : PW X (.BoolOp .Or [a] pos) tA := by
  intro wh pins s σ H Q I h
  refine isTrue_or (thn (ha pins s σ H Q I h) fun c s1 e => ?_)
  cases c with
  | false => exact isTrue_or_nil e
  | true => exact e
theorem pw_and (ha : PT X a tA) (hb : PW X (.BoolOp .And (b :: rest) pos) tB') : PW X (.BoolOp .And (a :: b :: rest) pos) (tAnd tA tB') := by
  intro wh pins s σ H Q I h
  refine isTrue_and (thn (ha pins s σ H _ I h) fun c s1 ⟨H1, I1, q1⟩ => ?_)
  cases c with
  | true => exact hb wh pins s1 σ H1 Q I1 q1
  | false => exact ⟨H1, I1, q1⟩
theorem pw_or (ha : PT X a tA) (hb : PW X (.BoolOp .Or (b :: rest) pos) tB') : PW X (.BoolOp .Or (a :: b :: rest) pos) (tOr tA tB') := by
  intro wh pins s σ H Q I h
  refine isTrue_or (thn (ha pins s σ H _ I h) fun c s1 ⟨H1, I1, q1⟩ => ?_)
  cases c with
  | true => exact ⟨H1, I1, q1⟩
  | false => exact hb wh pins s1 σ H1 Q I1 q1
theorem pt_not (ha : PT X a tA) : PT X (.UnaryOp .Not a pos) (tNot tA) := by
  intro pins s σ H Q I h
  exact isTrue_not (ha pins s σ H (fun c H1 => Q (!c) H1) I h)
/-- .. as values (bools) -/
noncomputable def tAndV (ta tb : TE) : TE := fun σ H Q => ta σ H fun x H1 => ∃ c, x = .bl c ∧ if c = true then tb σ H1 Q else Q (.bl false) H1
noncomputable def tOrV (ta tb : TE) : TE := fun σ H Q => ta σ H fun x H1 => ∃ c, x = .bl c ∧ if c = true then Q (.bl true) H1 else tb σ H1 Q
noncomputable def tNotV (ta : TE) : TE := fun σ H Q => ta σ H fun x H1 => ∃ c, x = .bl c ∧ Q (.bl (!c)) H1
theorem pe_one {op} {t : TE} (h : PE X a t) : PE X (.BoolOp op [a] pos) t := fun pins s σ H Q I hw => BoolOp_one (h pins s σ H Q I hw)
theorem pe_and (ha : PE X a ta) (hb : PE X (.BoolOp .And (b :: rest) pos) tb) : PE X (.BoolOp .And (a :: b :: rest) pos) (tAndV ta tb) := by
  intro pins s σ H Q I h
  refine BoolOp_and (thn (ha pins s σ H _ I h) fun v s1 ⟨x, H1, I1, r1, q1⟩ => ?_)
  obtain ⟨c, rfl, q1⟩ := q1
  cases r1
  refine wpAny_truthy_bool ?_
  cases c with
  | true => exact hb pins s1 σ H1 Q I1 q1
  | false => exact ⟨.bl false, H1, I1, rfl, q1⟩
theorem pe_or (ha : PE X a ta) (hb : PE X (.BoolOp .Or (b :: rest) pos) tb) : PE X (.BoolOp .Or (a :: b :: rest) pos) (tOrV ta tb) := by
  intro pins s σ H Q I h
  refine BoolOp_or (thn (ha pins s σ H _ I h) fun v s1 ⟨x, H1, I1, r1, q1⟩ => ?_)
  obtain ⟨c, rfl, q1⟩ := q1
  cases r1
  refine wpAny_truthy_bool ?_
  cases c with
  | false => exact hb pins s1 σ H1 Q I1 q1
  | true => exact ⟨.bl true, H1, I1, rfl, q1⟩
theorem pe_not (ha : PE X a ta) : PE X (.UnaryOp .Not a pos) (tNotV ta) := by
  intro pins s σ H Q I h
  refine UnaryOp_ (thn (ha pins s σ H _ I h) fun v s1 ⟨x, H1, I1, r1, q1⟩ => ?_)
  obtain ⟨c, rfl, q1⟩ := q1
  cases r1
  exact not_of (wpAny_truthy_bool ⟨.bl (!c), H1, I1, rfl, q1⟩)
end
end L2

namespace L2
open PySem PySem.Spec PyProof.Rows

/-! ### a list, a tuple that is read: tracked, frozen, or an object of the module -/
noncomputable def SqL (K : PySem.W.Frag) (H : Hp) (a : Addr) (xs : List V) : Prop :=
  Rd H a (.lst xs) ∨
    ∃ (o : Obj) (its : Array Value) (n : Nat), K.lookup a = some o ∧ o.cls = .type "list" ∧ o.dict = none ∧ o.data = .seq its n ∧ its.size ≤ sizeLine ∧ Vals xs its.toList
noncomputable def SqT (K : PySem.W.Frag) (H : Hp) (a : Addr) (xs : List V) : Prop :=
  Rd H a (.tup xs) ∨
    ∃ (o : Obj) (its : Array Value) (n : Nat), K.lookup a = some o ∧ o.cls = .type "tuple" ∧ o.data = .seq its n ∧ its.size ≤ sizeLine ∧ Vals xs its.toList
noncomputable def absV : Value → Option V
  | .none => some .non
  | .bool b => some (.bl b)
  | .int i _ => some (.int i)
  | .str x _ => some (.str x)
  | .bytes b _ => some (.byt b)
  | .float b _ => some (.flt b)
  | .ref a => some (.ref a)
  | .type n => some (.ty n)
  | _ => none
theorem RelV.abs {x : V} {u : Value} (r : RelV x u) : absV u = some x := by
  cases x with
  | non => cases r; rfl
  | bl _ => cases r; rfl
  | int _ => obtain ⟨t, rfl⟩ := r; rfl
  | str _ => obtain ⟨t, rfl⟩ := r; rfl
  | byt _ => obtain ⟨t, rfl⟩ := r; rfl
  | flt _ => obtain ⟨t, rfl⟩ := r; rfl
  | ref _ => cases r; rfl
  | ty _ => cases r; rfl
theorem RelV.inj {x y : V} {u : Value} (r : RelV x u) (q : RelV y u) : x = y := Option.some.inj (r.abs.symm.trans q.abs)
theorem Vals.inj : ∀ {xs ys : List V} {us : List Value}, Vals xs us → Vals ys us → xs = ys
  | _, _, _, .nil, .nil => rfl
  | _, _, _, .cons r t, .cons r' t' => by rw [r.inj r', Vals.inj t t']
section
variable {X : Cx} {pins : List (Addr × Obj)} {σ : St} {H : Hp} {s : Shared} {a : Addr} {xs ys : List V}
theorem SqL.of {K : PySem.W.Frag} (h : H a = some (.lst xs)) : SqL K H a xs := .inl (.inl h)
theorem SqT.of {K : PySem.W.Frag} (h : H a = some (.tup xs)) : SqT K H a xs := .inl (.inl h)
theorem Inv.list (I : Inv X pins σ H s) (h : SqL X.K H a xs) : ∃ its : List Value, Vals xs its ∧ PlainL s.heap a its.toArray ∧ xs.length ≤ sizeLine := by
  rcases h with h | ⟨o, its, n, hk, hc, hd, hs, hz, r⟩
  · obtain ⟨z, its, n, r, e⟩ := h.ok I.hok
    exact ⟨its, r, ⟨_, n, e, rfl, rfl, rfl⟩, z⟩
  · refine ⟨its.toList, r, ⟨o, n, I.kIn a o hk, hc, hd, by simpa using hs⟩, ?_⟩
    have e := r.length
    simp only [Array.length_toList] at e
    omega
theorem Inv.tuple (I : Inv X pins σ H s) (h : SqT X.K H a xs) : ∃ its : List Value, Vals xs its ∧ IsTup s.heap a its.toArray ∧ xs.length ≤ sizeLine := by
  rcases h with h | ⟨o, its, n, hk, hc, hs, hz, r⟩
  · obtain ⟨z, its, r, p⟩ := h.ok I.hok
    exact ⟨its, r, p, z⟩
  · refine ⟨its.toList, r, ⟨o, I.kIn a o hk, hc, n, by simpa using hs⟩, ?_⟩
    have e := r.length
    simp only [Array.length_toList] at e
    omega
theorem Inv.list_inj (I : Inv X pins σ H s) (h : SqL X.K H a xs) (h' : SqL X.K H a ys) : xs = ys := by
  obtain ⟨its, r, ⟨o, n, e, _, _, d⟩, _⟩ := I.list h
  obtain ⟨its', r', ⟨o', n', e', _, _, d'⟩, _⟩ := I.list h'
  rw [e] at e'; cases e'
  rw [d] at d'
  injection d' with d1 _
  have : its = its' := by simpa using congrArg Array.toList d1
  subst this
  exact r.inj r'
end

/-! ### another wish about exceptions -/
noncomputable abbrev Cx.wish (X : Cx) (E : Value → Shared → Prop) : Cx := { X with xe := E }
theorem Cx.Ok.wish {X : Cx} (ok : X.Ok) (E : Value → Shared → Prop) : (X.wish E).Ok :=
  ⟨ok.mod, ok.kind, ok.glob, ok.blt, ok.above, ok.inj, ok.has, ok.cab, ok.hd, ok.frames, ok.stk, ok.exf, ok.bs, ok.bsz, ok.noex, ok.exfs, ok.funs, ok.frf⟩
theorem Cx.Ok.unwish {X : Cx} {E : Value → Shared → Prop} (ok : (X.wish E).Ok) : X.Ok :=
  ⟨ok.mod, ok.kind, ok.glob, ok.blt, ok.above, ok.inj, ok.has, ok.cab, ok.hd, ok.frames, ok.stk, ok.exf, ok.bs, ok.bsz, ok.noex, ok.exfs, ok.funs, ok.frf⟩
section
variable {X : Cx} {pins : List (Addr × Obj)} {σ : St} {H : Hp} {s : Shared} {E : Value → Shared → Prop}
theorem Inv.wish (I : Inv X pins σ H s) (E : Value → Shared → Prop) : Inv (X.wish E) pins σ H s := ⟨I.ok.wish E, I.os, I.bare, I.base, I.loc, I.cell, I.free, I.freeC, I.pin, I.hok, I.len⟩
theorem Inv.unwish (I : Inv (X.wish E) pins σ H s) : Inv X pins σ H s := ⟨I.ok.unwish, I.os, I.bare, I.base, I.loc, I.cell, I.free, I.freeC, I.pin, I.hok, I.len⟩
end

/-! ### blocks and small statements -/
section
variable {X : Cx} {st : Stmt} {rest : List Stmt} {t u : TS} {e : Expr} {te : TE} {pos : Pos}
noncomputable def tNext : TS := fun D σ H => D.nx σ H
noncomputable def tSeq (t u : TS) : TS := fun D σ H => t { D with nx := u D } σ H
theorem pss_nil : PSs X [] tNext := fun _ _ σ H _ I h => wpAny_execs_nil ⟨σ, H, I, h⟩
theorem pss_cons (h1 : PS X st t) (h2 : PSs X rest u) : PSs X (st :: rest) (tSeq t u) := by
  intro pins s σ H D I h
  refine wpAny_execs_cons (thn (h1 pins s σ H { D with nx := u D } I h) fun f s1 q => ?_)
  cases f with
  | next =>
    obtain ⟨σ', H', I', q⟩ := q
    exact h2 pins s1 σ' H' D I' q
  | ret v => exact q
  | brk => exact q
  | cont => exact q
theorem pss_one (h1 : PS X st t) : PSs X [st] t := by
  intro pins s σ H D I h
  refine wpAny_execs_cons (thn (h1 pins s σ H D I h) fun f s1 q => ?_)
  cases f with
  | next => exact wpAny_execs_nil q
  | ret v => exact q
  | brk => exact q
  | cont => exact q
/-- in a def's body nothing is shown -/
theorem Inv.quiet {pins : List (Addr × Obj)} {σ : St} {H : Hp} {s : Shared} (I : Inv X pins σ H s) : interactive X.env = false := by simp [interactive, I.ok.kind]
/-- an expression whose value is dropped -/
noncomputable def tDrop (te : TE) : TS := fun D σ H => te σ H fun _ H1 => D.nx σ H1
theorem ps_expr (he : PE X e te) (hs : swapsWith e none pos.line X.env = pure false := by rfl) : PS X (.Expr e pos) (tDrop te) := by
  intro pins s σ H D I h
  exact wpAny_Expr_any (thn (he pins s σ H _ I h) fun v s1 ⟨x, H1, I1, r1, q1⟩ => ⟨σ, H1, I1, q1⟩) I.quiet hs
noncomputable def tRet (te : TE) : TS := fun D σ H => te σ H D.rt
theorem ps_ret (he : PE X e te) : PS X (.Return (some e) pos) (tRet te) := by
  intro pins s σ H D I h
  exact wpAny_Return_some (thn (he pins s σ H _ I h) fun v s1 ⟨x, H1, I1, r1, q1⟩ => ⟨x, σ, H1, I1, r1, q1⟩)
noncomputable def tIfS (c : TT) (t u : TS) : TS := fun D σ H => c σ H fun b H1 => if b = true then t D σ H1 else u D σ H1
theorem ps_if {c : Expr} {a b : List Stmt} {tc : TT} (hc : PT X c tc) (ha : PSs X a t) (hb : PSs X b u) : PS X (.If c a b pos) (tIfS tc t u) := by
  intro pins s σ H D I h
  refine wpAny_If (thn (hc pins s σ H _ I h) fun d s1 ⟨H1, I1, q1⟩ => ?_)
  cases d with
  | true => exact ha pins s1 σ H1 D I1 q1
  | false => exact hb pins s1 σ H1 D I1 q1
end

/-! ### targets -/
noncomputable abbrev TG := V → St → Hp → (St → Hp → Prop) → Prop
noncomputable abbrev TGs := List V → St → Hp → (St → Hp → Prop) → Prop
noncomputable def PG (X : Cx) (target : Expr) (t : TG) : Prop :=
  ∀ (pins : List (Addr × Obj)) (s : Shared) (σ : St) (H : Hp) (v : V) (u : Value) (Q : St → Hp → Prop), Inv X pins σ H s → RelV v u → t v σ H Q →
    wpAny (model X.prog X.w) X.A (assign target X.env u) (fun _ s' => ∃ σ' H', Inv X pins σ' H' s' ∧ Q σ' H') X.xe s
/-- several targets, one after another -/
noncomputable def PGs (X : Cx) (ts : List Expr) (t : TGs) : Prop :=
  ∀ (pins : List (Addr × Obj)) (s : Shared) (σ : St) (H : Hp) (vs : List V) (us : List Value) (Q : St → Hp → Prop), Inv X pins σ H s → Vals vs us → t vs σ H Q →
    wpAny (model X.prog X.w) X.A (assignInOrder ((assignEach ts X.env).map (·.2)) us) (fun _ s' => ∃ σ' H', Inv X pins σ' H' s' ∧ Q σ' H') X.xe s
/-- o[i] = v, by values -/
noncomputable abbrev TSet := V → V → V → Hp → (Hp → Prop) → Prop
noncomputable def PSet (X : Cx) (t : TSet) : Prop :=
  ∀ (pins : List (Addr × Obj)) (s : Shared) (σ : St) (H : Hp) (o i v : V) (ov iv u : Value) (Q : Hp → Prop), Inv X pins σ H s → RelV o ov → RelV i iv → RelV v u → t o i v H Q →
    wpAny (model X.prog X.w) X.A (setItem ov iv u) (fun _ s' => ∃ H', Inv X pins σ H' s' ∧ Q H') X.xe s
section
variable {X : Cx} {pos : Pos}
noncomputable def gName (i : Nat) : TG := fun v σ H Q => Q (σ.set i (some v)) H
theorem pg_name {i : Nat} {x : Str} (hN : X.N.Nodup) (hi : X.N[i]? = some x) (hx : Loc X.env.scope x) (hf : X.fn x = true ∨ X.env.scope.names.lookup x = some .local := by first | exact .inl rfl | exact .inr rfl | assumption) : PG X (.Name x pos) (gName i) := by
  intro pins s σ H v u Q I r h
  exact wpAny_assign_Name (store_ok I hN hi hx r (fun s' I' => ⟨_, H, I', h⟩) hf)
noncomputable def gNil : TGs := fun vs σ H Q => vs = [] ∧ Q σ H
noncomputable def gCons (t : TG) (u : TGs) : TGs := fun vs σ H Q => ∃ v r, vs = v :: r ∧ t v σ H fun σ' H' => u r σ' H' Q
theorem pgs_nil : PGs X [] gNil := by
  intro pins s σ H vs us Q I r h
  obtain ⟨e, h⟩ := h
  subst e
  cases r
  exact assignInOrder_nil ⟨σ, H, I, h⟩
theorem pgs_cons {e : Expr} {es : List Expr} {t : TG} {u : TGs} (h1 : PG X e t) (h2 : PGs X es u)
    (hs : (assignEach (e :: es) X.env).map (·.2) = assign e X.env :: (assignEach es X.env).map (·.2) := by rfl) : PGs X (e :: es) (gCons t u) := by
  intro pins s σ H vs us Q I r h
  obtain ⟨v, vr, e1, h⟩ := h
  subst e1
  cases r with
  | cons r rr =>
    rw [hs]
    refine assignInOrder_cons (thn (h1 pins s σ H _ _ _ I r h) fun _ s1 ⟨σ1, H1, I1, q1⟩ => ?_)
    exact h2 pins s1 σ1 H1 _ _ Q I1 rr q1
/-- (a, b, ..) = a tuple of that length -/
noncomputable def gTup (K : PySem.W.Frag) (n : Nat) (t : TGs) : TG := fun v σ H Q => ∃ a xs, v = .ref a ∧ SqT K H a xs ∧ xs.length = n ∧ t xs σ H Q
theorem pg_tup {es : List Expr} {k : Nat} {t : TGs} {n : Nat} (hc : X.calm = true) (h : PGs X es t)
    (hn : (assignEach es X.env).length = n := by rfl) (hst : (assignEach es X.env).findIdx? (·.1) = none := by rfl) : PG X (.Tuple es k pos) (gTup X.K n t) := by
  intro pins s σ H v u Q I r hw
  obtain ⟨a, xs, e1, hq, hl, hw⟩ := hw
  subst e1
  cases r
  obtain ⟨its, rv, ht, hz⟩ := I.tuple hq
  refine assign_Tuple_tuple (I.ok.hd hc) ht (by simp [hn, ← hl, rv.length]) hst fun h' hx => ?_
  have I1 : Inv X pins σ H { s with heap := h' } := I.kept (t' := s.toks) fun b o e => hx b o (Nat.ne_of_lt (Heap.lt_size e)) e
  exact h pins _ σ H xs _ Q I1 (by simpa using rv) hw
/-- o[i] = .. -/
noncomputable def gSub (to ti : TE) (t : TSet) : TG := fun v σ H Q => to σ H fun o H1 => ti σ H1 fun i H2 => t o i v H2 fun H3 => Q σ H3
theorem pg_sub {o i : Expr} {to ti : TE} {t : TSet} (ho : PE X o to) (hi : PE X i ti) (hs : PSet X t)
    (ha : ∀ v, assign (.Subscript o i pos) X.env v = (do
      let ov ← holding [v] (eval o X.env)
      let iv ← holding [v, ov] (eval i X.env)
      standAt pos
      holding [v, ov, iv] (setItem ov iv v)
      release [v, ov, iv] []) := by intro _; rfl) : PG X (.Subscript o i pos) (gSub to ti t) := by
  intro pins s σ H v u Q I r h
  rw [ha]
  refine wpAny_bind (wpAny_holding (thn (ho pins s σ H _ I h) fun ov s1 ⟨x, H1, I1, r1, q1⟩ => ?_))
  refine wpAny_bind (wpAny_holding (thn (hi pins s1 σ H1 _ I1 q1) fun iv s2 ⟨y, H2, I2, r2, q2⟩ => ?_))
  refine wpAny_bind (wpAny_standAt (wpAny_bind (wpAny_holding (thn (hs pins s2 σ H2 x y v ov iv u _ I2 r1 r2 r q2) fun _ s3 ⟨H3, I3, q3⟩ => ?_))))
  exact wpAny_release ⟨σ, H3, I3, q3⟩
/-- target = value -/
noncomputable def tAsg (te : TE) (g : TG) : TS := fun D σ H => te σ H fun x H1 => g x σ H1 D.nx
theorem ps_asg {tg e : Expr} {te : TE} {g : TG} (he : PE X e te) (hg : PG X tg g) (hs : swapsWithSole [tg] e pos.line X.env = pure false := by rfl) (hw : swappedStores [tg] e X.env = pure none := by rfl)
    (h1 : (assignEach [tg] X.env).map (·.2) = [assign tg X.env] := by rfl) : PS X (.Assign [tg] e pos) (tAsg te g) := by
  intro pins s σ H D I h
  refine wpAny_Assign_stores (thn (he pins s σ H _ I h) fun v s1 ⟨x, H1, I1, r1, q1⟩ => ?_) hs hw
  rw [h1]
  exact thn (hg pins s1 σ H1 x v _ I1 r1 q1) fun _ s2 q => q
/-- name = value -/
theorem ps_set {i : Nat} {x : Str} {e : Expr} {te : TE} {pos' : Pos} (hN : X.N.Nodup) (hi : X.N[i]? = some x) (hx : Loc X.env.scope x) (he : PE X e te) (hs : swapsWith e (some (.Name x pos')) pos.line X.env = pure false := by rfl) (hf : X.fn x = true ∨ X.env.scope.names.lookup x = some .local := by first | exact .inl rfl | exact .inr rfl | assumption) :
    PS X (.Assign [.Name x pos'] e pos) (tAsg te (gName i)) := by
  intro pins s σ H D I h
  refine wpAny_Assign_Name (thn (he pins s σ H _ I h) fun v s1 ⟨y, H1, I1, r1, q1⟩ => ?_) hs
  exact store_ok I1 hN hi hx r1 (fun s2 I2 => ⟨_, H1, I2, q1⟩) hf
end

/-! ### while -/
section
variable {X : Cx} {pos : Pos}
/-- the invariant W with its measure -/
noncomputable def tWhile (c : TT) (tb : TS) : TS := fun D σ H => ∃ W : Nat → St → Hp → Prop, (∃ m, W m σ H) ∧ ∀ m σ H, W m σ H →
  c σ H fun b H1 => if b = true then ∃ N : St → Hp → Prop, (∀ σ' H', N σ' H' → ∃ m', m' < m ∧ W m' σ' H') ∧ tb { D with nx := N, ct := N, bk := D.nx } σ H1 else D.nx σ H1
theorem ps_while {c : Expr} {body : List Stmt} {tc : TT} {tb : TS} (hp : PassesOwn (model X.prog X.w) X.A X.env X.xe) (hc : PT X c tc) (hb : PSs X body tb) : PS X (.While c body [] pos) (tWhile tc tb) := by
  intro pins s σ H D I h
  obtain ⟨W, ⟨m0, w0⟩, turn⟩ := h
  refine wpAny_While (codeAny_whileLoop (fun n s' => ∃ σ' H', Inv X pins σ' H' s' ∧ W n σ' H') ?_ m0 ⟨σ, H, I, w0⟩)
  rintro n s1 ⟨σ1, H1, I1, w1⟩
  refine wpAny_passesOwn hp (thn (hc pins s1 σ1 H1 _ I1 (turn n σ1 H1 w1)) fun b s2 ⟨H2, I2, q2⟩ => ?_)
  cases b with
  | true =>
    obtain ⟨N, hN, q2⟩ := q2
    rw [if_pos rfl]
    refine wpAny_passesOwn hp (thn (hb pins s2 σ1 H2 _ I2 q2) fun f s3 q3 => ?_)
    cases f with
    | next =>
      obtain ⟨σ3, H3, I3, n3⟩ := q3
      obtain ⟨m', hm, w3⟩ := hN σ3 H3 n3
      exact ⟨m', hm, σ3, H3, I3, w3⟩
    | cont =>
      obtain ⟨σ3, H3, I3, n3⟩ := q3
      obtain ⟨m', hm, w3⟩ := hN σ3 H3 n3
      exact ⟨m', hm, σ3, H3, I3, w3⟩
    | brk => exact q3
    | ret v => exact q3
  | false =>
    rw [if_neg Bool.false_ne_true]
    exact wpAny_execs_nil ⟨σ1, H2, I2, q2⟩
end

/-! ### what a loop or a comprehension walks -/
/-- at turn i: it yields x (the heap may grow), or it stops -/
structure It where
  go : Nat → Hp → Prop
  yld : Nat → Hp → V → Hp → Prop
  stop : Nat → Hp → Prop
/-- the iterator's own objects may turn: they are not the frame's, not pinned, younger than the entry (or a comprehension's own) -/
noncomputable def FpOk (X : Cx) (pins : List (Addr × Obj)) (H : Hp) (b : Addr) : Prop :=
  H b = none ∧ b ≠ X.env.locals ∧ b ∉ X.fs ∧ (b ∈ X.ex ∨ X.s₀.heap.objs.size ≤ b) ∧ (∀ x c, X.env.cells.lookup x = some c → c ≠ b) ∧ ∀ p ∈ X.pn ++ pins, p.1 ≠ b
theorem Inv.fpOk {X : Cx} {pins : List (Addr × Obj)} {σ : St} {H H' : Hp} {s : Shared} {b : Addr} (I : Inv X pins σ H s) (hb : s.heap.objs.size ≤ b) (hn : H' b = none) : FpOk X pins H' b := by
  refine ⟨hn, Nat.ne_of_gt (Nat.lt_of_lt_of_le I.lt hb), I.nofs hb, .inr (Nat.le_trans I.sz hb), fun x c e z => ?_, fun p hp z => ?_⟩
  · obtain ⟨v, q⟩ := I.cell x c e
    exact absurd (Nat.lt_of_lt_of_le q.lt (by rw [z]; exact hb)) (Nat.lt_irrefl _)
  · exact absurd (Nat.lt_of_lt_of_le (Heap.lt_size (I.pin p hp).1) (by rw [z]; exact hb)) (Nat.lt_irrefl _)
structure Turn (P : Program) (w : World) (K : PySem.W.Frag) (tg : Expr) (J : It) (fp : List Addr) (it : Addr) (tn : Nat → Heap → Prop) : Prop where
  mem : it ∈ fp
  obj : ∀ i h, tn i h → ∀ b ∈ fp, ∃ o, h.get? b = some o ∧ ∀ v, o.data ≠ .cell v
  keep : ∀ i h h', tn i h → (∀ b ∈ fp, ∀ o, h.get? b = some o → h'.get? b = some o) → tn i h'
  item : ∀ (X : Cx), X.prog = P → X.w = w → X.K = K → X.calm = true → ∀ (i : Nat) (pins : List (Addr × Obj)) (s : Shared) (σ : St) (H : Hp) (E : Value → Shared → Prop), Inv X pins σ H s → (∀ b ∈ fp, FpOk X pins H b) → tn i s.heap → J.go i H →
    wpAny (model P w) X.A (pyNext (.ref it)) (fun r s1 => ∃ u, r = some u ∧
      wpAny (model P w) X.A (letOwnedTupleGo tg (.ref it) u) (fun _ s2 => ∃ x H', Inv X pins σ H' s2 ∧ RelV x u ∧ J.yld i H x H' ∧ tn (i + 1) s2.heap ∧ ∀ b ∈ fp, H' b = none) E s1) E s
  done : ∀ (X : Cx), X.prog = P → X.w = w → X.K = K → X.calm = true → ∀ (i : Nat) (pins : List (Addr × Obj)) (s : Shared) (σ : St) (H : Hp) (E : Value → Shared → Prop), Inv X pins σ H s → (∀ b ∈ fp, FpOk X pins H b) → tn i s.heap → J.stop i H →
    wpAny (model P w) X.A (pyNext (.ref it)) (fun r s1 => r = none ∧ Inv X pins σ H s1) E s
  self : ∀ (A : Around) (i : Nat) (s : Shared) (Q : Value → Shared → Prop) (E : Value → Shared → Prop), tn i s.heap → Q (.ref it) s → wpAny (model P w) A (pyIter (.ref it)) Q E s
noncomputable abbrev TI := St → Hp → (It → Hp → Prop) → Prop
/-- an iterator has come -/
noncomputable def PIE (X : Cx) (pins : List (Addr × Obj)) (σ : St) (tg : Expr) (R : It → Hp → Prop) (itv : Value) (s2 : Shared) : Prop :=
  ∃ (it : Addr) (fp : List Addr) (tn : Nat → Heap → Prop) (J : It) (H' : Hp), itv = .ref it ∧ Inv X pins σ H' s2 ∧ Turn X.prog X.w X.K tg J fp it tn ∧ tn 0 s2.heap ∧ (∀ b ∈ fp, FpOk X pins H' b) ∧ R J H'
noncomputable def PI (X : Cx) (tg iter : Expr) (wi : TI) : Prop :=
  ∀ (pins : List (Addr × Obj)) (s : Shared) (σ : St) (H : Hp) (R : It → Hp → Prop), Inv X pins σ H s → wi σ H R →
    wpAny (model X.prog X.w) X.A (eval iter X.env) (fun v s1 => wpAny (model X.prog X.w) X.A (pyIter v) (PIE X pins σ tg R) X.xe s1) X.xe s

/-- the step ahead of the store is nothing for an iterator that keeps no tuple -/
theorem go_of {M : Model} {A : Around} {E : Value → Shared → Prop} {s : Shared} {tg : Expr} {it : Addr} {u : Value} {o : Obj} {n : String} {vs : Array Value} {Q : Unit → Shared → Prop} (ho : s.heap.get? it = some o) (hc : o.cls = .type n) (hd : o.data = .fields vs)
    (hn : ["enumerate", "zip", "dict_itemiterator", "dict_reverseitemiterator", "odict_iterator", "itertools.zip_longest", "itertools.pairwise"].contains n = false) (hQ : Q () s) : wpAny M A (letOwnedTupleGo tg (.ref it) u) Q E s := by
  unfold letOwnedTupleGo
  cases tg <;> first
    | exact wpAny_pure hQ
    | (cases u <;> first
        | exact wpAny_pure hQ
        | (refine wpAny_bind (wpAny_load ho ?_)
           rw [hc, hd]
           show wpAny M A (if (["enumerate", "zip", "dict_itemiterator", "dict_reverseitemiterator", "odict_iterator", "itertools.zip_longest", "itertools.pairwise"].contains n && vs[0]? == some (rawInt _)) = true then _ else _) Q E s
           rw [if_neg (by intro h; rw [hn, Bool.false_and] at h; cases h)]
           exact wpAny_pure hQ))

/-- the list at a, as it stands at each turn (a loop may append to it) -/
noncomputable def Itl (K : PySem.W.Frag) (a : Addr) : It :=
  ⟨fun i H => ∃ xs x, SqL K H a xs ∧ xs[i]? = some x, fun i H x H' => H' = H ∧ ∀ xs, SqL K H a xs → xs[i]? = some x, fun i H => ∃ xs, SqL K H a xs ∧ xs.length ≤ i⟩
theorem turn_list {P : Program} {w : World} {K : PySem.W.Frag} {tg : Expr} (a it : Addr) : Turn P w K tg (Itl K a) [it] it (fun i h => h.IsListIter it a i) where
  mem := by simp
  obj := fun i h st b hb => by
    have e : b = it := by simpa using hb
    subst e
    obtain ⟨o, e, c, d⟩ := st
    exact ⟨o, e, fun v z => by rw [d] at z; cases z⟩
  keep := fun i h h' st k => st.at fun o e => k it (by simp) o e
  item := by
    intro X hP hw hK hc i pins s σ H E I hf st hg
    subst hP hw hK
    obtain ⟨xs, x, hq, hx⟩ := hg
    obtain ⟨its, rv, p, hz⟩ := I.list hq
    obtain ⟨u, hu, ru⟩ := rv.get hx
    obtain ⟨f0, f1, f2, f3, f4, f5⟩ := hf it (by simp)
    refine wpAny_pyNext_list_item st p.isList (x := u) (by simpa using hu) fun h' st' sb => ?_
    have I1 : Inv X pins σ H { s with heap := h' } := I.turned (t' := s.toks) (fun b o hb e => (sb.2 b hb).trans e) f0 f1 f3 f4 f5
    obtain ⟨o, e, c, d⟩ := id st'
    exact ⟨u, rfl, go_of (s := { s with heap := h' }) e c d (by decide) ⟨x, H, I1, ru, ⟨rfl, fun ys hy => by rw [I.list_inj hy hq]; exact hx⟩, st', fun b hb => (hf b hb).1⟩⟩
  done := by
    intro X hP hw hK hc i pins s σ H E I hf st hg
    subst hP hw hK
    obtain ⟨xs, hq, hx⟩ := hg
    obtain ⟨its, rv, p, hz⟩ := I.list hq
    obtain ⟨f0, f1, f2, f3, f4, f5⟩ := hf it (by simp)
    have hl := rv.length
    exact wpAny_pyNext_list_end (I.ok.hd hc) st p.isList (by simp; omega) fun h' eb => ⟨rfl, I.turned (t' := s.toks) (fun b o hb e => eb b o hb e) f0 f1 f3 f4 f5⟩
  self := fun _ _ _ _ _ st h => wpAny_pyIter_listiter st h
end L2

namespace L2
open PySem PySem.Spec PyProof.Rows
section
variable {X : Cx} {tg : Expr}
noncomputable def iList (K : PySem.W.Frag) (tl : TE) : TI := fun σ H R => tl σ H fun x H1 => ∃ a, x = .ref a ∧ (∃ xs, SqL K H1 a xs) ∧ R (Itl K a) H1
theorem pi_list {l : Expr} {tl : TE} (hl : PE X l tl) : PI X tg l (iList X.K tl) := by
  intro pins s σ H R I h
  refine thn (hl pins s σ H _ I h) fun v s1 ⟨x, H1, I1, r1, q1⟩ => ?_
  obtain ⟨a, e, ⟨xs, hq⟩, q⟩ := q1
  subst e
  cases r1
  obtain ⟨its, rv, p, hz⟩ := I1.list hq
  refine wpAny_pyIter_list p.isList ?_
  refine ⟨s1.heap.objs.size, [s1.heap.objs.size], _, _, H1, rfl, I1.kept (t' := s1.toks) fun b o e => Heap.get?_push_of_some _ e, turn_list a _, ⟨_, Heap.get?_push_size _ rfl, rfl, rfl⟩, fun b hb => ?_, q⟩
  have e : b = s1.heap.objs.size := by simpa using hb
  subst e
  exact I1.fpOk (Nat.le_refl _) (I1.hok.fresh (Nat.le_refl _))

/-! ### for -/
/-- W: the invariant by the turn and a measure; N: what the body is to reach -/
noncomputable def tFor (wi : TI) (g : TG) (tb : TS) : TS := fun D σ H => wi σ H fun J H1 => ∃ W : Nat → Nat → St → Hp → Prop, (∃ m, W 0 m σ H1) ∧ ∀ i m σ H, W i m σ H →
  (J.stop i H ∧ D.nx σ H) ∨ (J.go i H ∧ ∃ N : St → Hp → Prop, (∀ σ' H', N σ' H' → ∃ m', m' < m ∧ W (i + 1) m' σ' H') ∧ ∀ x H', J.yld i H x H' → g x σ H' fun σ2 H2 => tb { D with nx := N, ct := N, bk := D.nx } σ2 H2)
/-- the records at fp as they stand -/
noncomputable def pinsAt (fp : List Addr) (h : Heap) : List (Addr × Obj) := fp.filterMap fun b => (h.get? b).map fun o => (b, o)
theorem mem_pinsAt {fp : List Addr} {h : Heap} {b : Addr} {o : Obj} (hb : b ∈ fp) (e : h.get? b = some o) : (b, o) ∈ pinsAt fp h := List.mem_filterMap.mpr ⟨b, hb, by rw [e]; rfl⟩
theorem of_pinsAt {fp : List Addr} {h : Heap} {p : Addr × Obj} (hp : p ∈ pinsAt fp h) : p.1 ∈ fp ∧ h.get? p.1 = some p.2 := by
  obtain ⟨b, hb, e⟩ := List.mem_filterMap.mp hp
  cases q : h.get? b with
  | none => rw [q] at e; cases e
  | some o =>
    rw [q] at e
    have e' : (b, o) = p := Option.some.inj e
    subst e'
    exact ⟨hb, q⟩
theorem Inv.pinned {pins : List (Addr × Obj)} {σ : St} {H : Hp} {s : Shared} {fp : List Addr} (I : Inv X pins σ H s) (hf : ∀ b ∈ fp, FpOk X pins H b) (ho : ∀ b ∈ fp, ∃ o, s.heap.get? b = some o ∧ ∀ v, o.data ≠ .cell v) : Inv X (pins ++ pinsAt fp s.heap) σ H s :=
  I.pins_of fun p hp => (List.mem_append.mp hp).elim (fun z => I.pin p (List.mem_append_right _ z)) fun z => by
    obtain ⟨hb, e⟩ := of_pinsAt z
    obtain ⟨f0, f1, f2, _⟩ := hf p.1 hb
    obtain ⟨o, e', d⟩ := ho p.1 hb
    rw [e] at e'; cases e'
    exact ⟨e, f0, f1, f2, d⟩
theorem Inv.unpinned {pins pl : List (Addr × Obj)} {σ : St} {H : Hp} {s : Shared} (I : Inv X (pins ++ pl) σ H s) : Inv X pins σ H s := I.pins_of fun p hp => I.pin p (List.mem_append_right _ (List.mem_append_left _ hp))
theorem ps_for {iter : Expr} {body : List Stmt} {wi : TI} {g : TG} {tb : TS} {pos : Pos} (hp : PassesOwn (model X.prog X.w) X.A X.env X.xe) (hc : X.calm = true) (hi : PI X tg iter wi) (hg : PG X tg g) (hb : PSs X body tb)
    (hs : ∀ x, foldedSetIterable iter X.env x = pure x := by intro _; rfl) : PS X (.For tg iter body [] pos) (tFor wi g tb) := by
  intro pins s σ H D I h
  refine wpAny_For (thn (hi pins s σ H _ I h) fun v s1 h1 => thn h1 fun itv s2 h2 => ?_) hs
  obtain ⟨it, fp, tn, J, H2, e, I2, T, st2, f2, W, ⟨m0, w0⟩, turn⟩ := h2
  subst e
  -- what stays true of the iterator's objects through the loop
  have stat : ∀ {H' : Hp}, (∀ b ∈ fp, H' b = none) → ∀ b ∈ fp, FpOk X pins H' b := fun hn b hb => ⟨hn b hb, (f2 b hb).2⟩
  refine codeAny_forLoop_any (fun n s' => ∃ i σ' H', Inv X pins σ' H' s' ∧ tn i s'.heap ∧ (∀ b ∈ fp, H' b = none) ∧ W i n σ' H') ?_ m0 ⟨0, σ, H2, I2, st2, fun b hb => (f2 b hb).1, w0⟩
  rintro n s3 ⟨i, σ3, H3, I3, st3, fr3, w3⟩
  rcases turn i n σ3 H3 w3 with ⟨stop, qn⟩ | ⟨go, N, hN, step⟩
  · refine wpAny_passesOwn hp (thn (T.done X rfl rfl rfl hc i pins s3 σ3 H3 X.xe I3 (stat fr3) st3 stop) fun r s4 ⟨hr, I4⟩ => ?_)
    subst hr
    exact wpAny_execs_nil ⟨σ3, H3, I4, qn⟩
  · refine wpAny_passesOwn hp (thn (T.item X rfl rfl rfl hc i pins s3 σ3 H3 X.xe I3 (stat fr3) st3 go) fun r s4 ⟨u, hr, h4⟩ => ?_)
    subst hr
    refine wpAny_passesOwn hp (thn h4 fun _ s5 ⟨x, H5, I5, r5, y5, st5, fr5⟩ => ?_)
    have I5' := I5.pinned (stat fr5) (T.obj _ _ st5)
    refine wpAny_passesOwn hp (thn (hg _ s5 σ3 H5 x u _ I5' r5 (step x H5 y5)) fun _ s6 ⟨σ6, H6, I6, q6⟩ => ?_)
    refine wpAny_passesOwn hp (thn (hb _ s6 σ6 H6 _ I6 q6) fun f s7 q7 => ?_)
    have again : ∀ {σ7 : St} {H7 : Hp}, Inv X (pins ++ pinsAt fp s5.heap) σ7 H7 s7 → N σ7 H7 → ∃ m, m < n ∧ ∃ i σ' H', Inv X pins σ' H' s7 ∧ tn i s7.heap ∧ (∀ b ∈ fp, H' b = none) ∧ W i m σ' H' := fun {σ7 H7} I7 n7 => by
      obtain ⟨m', hm, w7⟩ := hN σ7 H7 n7
      refine ⟨m', hm, i + 1, σ7, H7, I7.unpinned, T.keep _ _ _ st5 fun b hb o e => (I7.pin (b, o) (List.mem_append_right _ (List.mem_append_right _ (mem_pinsAt hb e)))).1, fun b hb => ?_, w7⟩
      obtain ⟨o, e, d⟩ := T.obj _ _ st5 b hb
      exact (I7.pin (b, o) (List.mem_append_right _ (List.mem_append_right _ (mem_pinsAt hb e)))).2.1
    cases f with
    | next => obtain ⟨σ7, H7, I7, n7⟩ := q7; exact again I7 n7
    | cont => obtain ⟨σ7, H7, I7, n7⟩ := q7; exact again I7 n7
    | brk => obtain ⟨σ7, H7, I7, q7⟩ := q7; exact ⟨σ7, H7, I7.unpinned, q7⟩
    | ret v => obtain ⟨x7, σ7, H7, I7, r7, q7⟩ := q7; exact ⟨x7, σ7, H7, I7.unpinned, r7, q7⟩
end

/-! ### the forms one uses -/
/-- over a list that the body leaves as it is -/
theorem for_list {K : PySem.W.Frag} {a : Addr} {xs : List V} {g : TG} {tb : TS} {D : Ends} {σ : St} {H : Hp} (Pv : Nat → St → Hp → Prop) (h0 : Pv 0 σ H) (hl : ∀ i σ H, i ≤ xs.length → Pv i σ H → SqL K H a xs)
    (hs : ∀ i x σ H, xs[i]? = some x → Pv i σ H → g x σ H fun σ2 H2 => tb { D with nx := Pv (i + 1), ct := Pv (i + 1), bk := D.nx } σ2 H2) (hd : ∀ σ H, Pv xs.length σ H → D.nx σ H) :
    ∃ W : Nat → Nat → St → Hp → Prop, (∃ m, W 0 m σ H) ∧ ∀ i m σ H, W i m σ H →
      ((Itl K a).stop i H ∧ D.nx σ H) ∨ ((Itl K a).go i H ∧ ∃ N : St → Hp → Prop, (∀ σ' H', N σ' H' → ∃ m', m' < m ∧ W (i + 1) m' σ' H') ∧ ∀ x H', (Itl K a).yld i H x H' → g x σ H' fun σ2 H2 => tb { D with nx := N, ct := N, bk := D.nx } σ2 H2) := by
  refine ⟨fun i m σ H => m = xs.length - i ∧ i ≤ xs.length ∧ Pv i σ H, ⟨xs.length, by simp, Nat.zero_le _, h0⟩, ?_⟩
  rintro i m σ H ⟨rfl, hi, p⟩
  have q := hl i σ H hi p
  by_cases hlt : i < xs.length
  · refine .inr ⟨⟨xs, xs[i], q, by simp [hlt]⟩, Pv (i + 1), fun σ' H' p' => ⟨xs.length - (i + 1), by omega, rfl, hlt, p'⟩, fun x H' y => ?_⟩
    obtain ⟨e, y⟩ := y
    subst e
    exact hs i x σ _ (y xs q) p
  · have e : i = xs.length := by omega
    subst e
    exact .inl ⟨⟨xs, q, Nat.le_refl _⟩, hd σ H p⟩
end L2

namespace L2
open PySem PySem.Spec PyProof.Rows

noncomputable abbrev R2 := V → V → Hp → VK → Prop
/-- a two-place operation on values: f is binaryOp op, inplaceOp op or compareOp op -/
noncomputable def OpR (X : Cx) (f : Value → Value → Sem Value) (r : R2) : Prop :=
  ∀ (pins : List (Addr × Obj)) (s : Shared) (σ : St) (H : Hp) (x y : V) (v u : Value) (Q : VK), Inv X pins σ H s → RelV x v → RelV y u → r x y H Q →
    wpAny (model X.prog X.w) X.A (f v u) (EP X pins σ Q) X.xe s
/-- a one-place operation -/
noncomputable def UnR (X : Cx) (f : Value → Sem Value) (r : V → Hp → VK → Prop) : Prop :=
  ∀ (pins : List (Addr × Obj)) (s : Shared) (σ : St) (H : Hp) (x : V) (v : Value) (Q : VK), Inv X pins σ H s → RelV x v → r x H Q →
    wpAny (model X.prog X.w) X.A (f v) (EP X pins σ Q) X.xe s
/-- a call of a value that is known (a builtin, a type) with values -/
noncomputable def CallR (X : Cx) (f : Value) (r : List V → Hp → VK → Prop) : Prop :=
  ∀ (pins : List (Addr × Obj)) (s : Shared) (σ : St) (H : Hp) (xs : List V) (us : List Value) (Q : VK), Inv X pins σ H s → Vals xs us → r xs H Q →
    wpAny (model X.prog X.w) X.A (call f us) (EP X pins σ Q) X.xe s
/-- a value's truth -/
noncomputable def TruR (X : Cx) (r : V → Hp → (Bool → Hp → Prop) → Prop) : Prop :=
  ∀ (pins : List (Addr × Obj)) (s : Shared) (σ : St) (H : Hp) (x : V) (v : Value) (Q : Bool → Hp → Prop), Inv X pins σ H s → RelV x v → r x H Q →
    wpAny (model X.prog X.w) X.A (truthy v) (TP X pins σ Q) X.xe s

noncomputable def tOp (r : R2) (ta tb : TE) : TE := fun σ H Q => ta σ H fun x H1 => tb σ H1 fun y H2 => r x y H2 Q
noncomputable def tUn (r : V → Hp → VK → Prop) (ta : TE) : TE := fun σ H Q => ta σ H fun x H1 => r x H1 Q
/-- ints in, under C, and a value out -/
noncomputable def rI (C : Int → Int → Prop) (g : Int → Int → V) : R2 := fun x y H Q => ∃ i j, x = .int i ∧ y = .int j ∧ C i j ∧ Q (g i j) H
noncomputable def rI0 (g : Int → Int → V) : R2 := fun x y H Q => ∃ i j, x = .int i ∧ y = .int j ∧ Q (g i j) H
noncomputable def rU (g : Int → V) : V → Hp → VK → Prop := fun x H Q => ∃ i, x = .int i ∧ Q (g i) H

section
variable {X : Cx} {a b c : Expr} {ta tb tc : TE} {pos : Pos}

theorem binT (ha : PE X a ta) (hb : PE X b tb) {pins : List (Addr × Obj)} {s : Shared} {σ : St} {H : Hp} {R : V → V → Hp → Prop} (I : Inv X pins σ H s)
    (h : ta σ H fun x H1 => tb σ H1 fun y H2 => R x y H2) {Q : Value → Shared → Prop} {f : Value → Value → Sem Value}
    (hf : ∀ v u s2 x y H2, Inv X pins σ H2 s2 → RelV x v → RelV y u → R x y H2 → wpAny (model X.prog X.w) X.A (f v u) Q X.xe s2) :
    wpAny (model X.prog X.w) X.A (eval a X.env) (fun v s₁ => wpAny (model X.prog X.w) X.A (eval b X.env) (fun u s₂ => wpAny (model X.prog X.w) X.A (f v u) Q X.xe s₂) X.xe s₁) X.xe s := by
  refine thn (ha pins s σ H _ I h) fun v s1 ⟨x, H1, I1, r1, q1⟩ => ?_
  refine thn (hb pins s1 σ H1 _ I1 q1) fun u s2 ⟨y, H2, I2, r2, q2⟩ => ?_
  exact hf v u s2 x y H2 I2 r1 r2 q2

theorem pe_op {op : Operator} {r : R2} (ho : OpR X (binaryOp op) r) (ha : PE X a ta) (hb : PE X b tb) : PE X (.BinOp a op b pos) (tOp r ta tb) := by
  intro pins s σ H Q I h
  exact wpAny_BinOp (binT ha hb I h fun v u s2 x y H2 I2 rx ry q => ho pins s2 σ H2 x y v u Q I2 rx ry q)
theorem pe_un {op : UnaryOp} {r : V → Hp → VK → Prop} (ho : UnR X (unaryOp op) r) (ha : PE X a ta) : PE X (.UnaryOp op a pos) (tUn r ta) := by
  intro pins s σ H Q I h
  exact UnaryOp_ (thn (ha pins s σ H _ I h) fun v s1 ⟨x, H1, I1, r1, q1⟩ => ho pins s1 σ H1 x v Q I1 r1 q1)

/-! ### ints -/
theorem opI {f : Value → Value → Sem Value} {C : Int → Int → Prop} {g : Int → Int → Int}
    (rule : ∀ (i j : Int) (t u : Tok) (s : Shared) (Q : Value → Shared → Prop) (E : Value → Shared → Prop), C i j → Q (.int (g i j) s.toks) { s with toks := s.toks + 1 } → wpAny (model X.prog X.w) X.A (f (.int i t) (.int j u)) Q E s) :
    OpR X f (rI C fun i j => .int (g i j)) := by
  intro pins s σ H x y v u Q I rx ry h
  obtain ⟨i, j, rfl, rfl, hc, q⟩ := h
  obtain ⟨t, rfl⟩ := rx
  obtain ⟨t', rfl⟩ := ry
  exact rule i j t t' s _ _ hc ⟨.int (g i j), H, I.tok _, ⟨_, rfl⟩, q⟩
theorem opI0 {f : Value → Value → Sem Value} {g : Int → Int → Int}
    (rule : ∀ (i j : Int) (t u : Tok) (s : Shared) (Q : Value → Shared → Prop) (E : Value → Shared → Prop), Q (.int (g i j) s.toks) { s with toks := s.toks + 1 } → wpAny (model X.prog X.w) X.A (f (.int i t) (.int j u)) Q E s) :
    OpR X f (rI0 fun i j => .int (g i j)) := by
  intro pins s σ H x y v u Q I rx ry h
  obtain ⟨i, j, rfl, rfl, q⟩ := h
  obtain ⟨t, rfl⟩ := rx
  obtain ⟨t', rfl⟩ := ry
  exact rule i j t t' s _ _ ⟨.int (g i j), H, I.tok _, ⟨_, rfl⟩, q⟩
theorem opB0 {f : Value → Value → Sem Value} {g : Int → Int → Bool}
    (rule : ∀ (i j : Int) (t u : Tok) (s : Shared) (Q : Value → Shared → Prop) (E : Value → Shared → Prop), Q (.bool (g i j)) s → wpAny (model X.prog X.w) X.A (f (.int i t) (.int j u)) Q E s) :
    OpR X f (rI0 fun i j => .bl (g i j)) := by
  intro pins s σ H x y v u Q I rx ry h
  obtain ⟨i, j, rfl, rfl, q⟩ := h
  obtain ⟨t, rfl⟩ := rx
  obtain ⟨t', rfl⟩ := ry
  exact rule i j t t' s _ _ ⟨.bl (g i j), H, I, rfl, q⟩

noncomputable def CDiv (i j : Int) : Prop := 0 < j ∧ j < 1073741824
noncomputable def CPow (i j : Int) : Prop := 0 ≤ j ∧ j ≤ 1000000 ∧ i.natAbs < 2 ^ 64
noncomputable def CMul (i j : Int) : Prop := (-(2 ^ 64) < i ∧ i < 2 ^ 64) ∨ (-(2 ^ 64) < j ∧ j < 2 ^ 64)
theorem CMul.ok {i j : Int} (h : CMul i j) : IntMulOk i j := by
  rcases h with ⟨h1, h2⟩ | ⟨h1, h2⟩
  · exact .of_left (intBits_le_64 h1 h2)
  · exact .of_right (intBits_le_64 h1 h2)
theorem two_pow_nn (k : Nat) : (0 : Int) ≤ 2 ^ k := by
  rw [two_pow_cast]
  exact Int.natCast_nonneg _

theorem op_add : OpR X (binaryOp .Add) (rI0 fun i j => .int (i + j)) := opI0 fun _ _ _ _ _ _ _ q => add_int q
theorem op_sub : OpR X (binaryOp .Sub) (rI0 fun i j => .int (i - j)) := opI0 fun _ _ _ _ _ _ _ q => sub_int q
theorem op_mul : OpR X (binaryOp .Mult) (rI CMul fun i j => .int (i * j)) := opI fun _ _ _ _ _ _ _ hc q => mul_int q hc.ok
/-- // by a positive divisor -/
theorem op_fdiv : OpR X (binaryOp .FloorDiv) (rI CDiv fun i j => .int (i / j)) := opI fun i j _ _ _ _ _ hc q => by
  have h1 : (0 : Int) < j := hc.1
  have h2 : j < 1073741824 := hc.2
  exact floordiv_int (by omega) (by rw [Int.fdiv_eq_ediv_of_nonneg i (by omega)]; exact q) (.inl (PyProof.noPylong_small (by omega)))
/-- % by a positive divisor of any size -/
theorem op_mod : OpR X (binaryOp .Mod) (rI (fun _ j => 0 < j) fun i j => .int (i % j)) := opI fun i j _ _ _ _ _ hc q => by
  have h1 : (0 : Int) < j := hc
  exact mod_int' (by omega) (by rw [Int.fmod_eq_emod_of_nonneg i (by omega)]; exact q)
theorem op_pow : OpR X (binaryOp .Pow) (rI CPow fun i j => .int (i ^ j.toNat)) := opI fun _ _ _ _ _ _ _ hc q => pow_int_small hc.1 hc.2.1 hc.2.2 q
theorem op_shr : OpR X (binaryOp .RShift) (rI (fun _ j => 0 ≤ j) fun i j => .int (i / 2 ^ j.toNat)) := opI fun i j _ _ _ _ _ hc q =>
  rshift_int hc (by rw [Int.fdiv_eq_ediv_of_nonneg i (two_pow_nn _)]; exact q)


theorem unI {f : Value → Sem Value} {g : Int → Int}
    (rule : ∀ (i : Int) (t : Tok) (s : Shared) (Q : Value → Shared → Prop) (E : Value → Shared → Prop), Q (.int (g i) s.toks) { s with toks := s.toks + 1 } → wpAny (model X.prog X.w) X.A (f (.int i t)) Q E s) :
    UnR X f (rU fun i => .int (g i)) := by
  intro pins s σ H x v Q I rx h
  obtain ⟨i, rfl, q⟩ := h
  obtain ⟨t, rfl⟩ := rx
  exact rule i t s _ _ ⟨.int (g i), H, I.tok _, ⟨_, rfl⟩, q⟩
theorem un_neg : UnR X (unaryOp .USub) (rU fun i => .int (-i)) := unI fun _ _ _ _ _ q => neg_int q

/-! ### bools among ints: n += (a < b) -/
end

/-! ### comparisons -/
/-- the scalars that == tells apart as data does -/
noncomputable def scal : V → V → Bool
  | .non, .non => true | .non, .int _ => true | .int _, .non => true | .non, .bl _ => true | .bl _, .non => true | .non, .str _ => true | .str _, .non => true
  | .int _, .int _ => true | .bl _, .bl _ => true | .str _, .str _ => true | .byt _, .byt _ => true
  | .int _, .str _ => true | .str _, .int _ => true | .bl _, .str _ => true | .str _, .bl _ => true
  | _, _ => false
noncomputable def rEq : R2 := fun x y H Q => scal x y = true ∧ Q (.bl (decide (x = y))) H
noncomputable def rNe : R2 := fun x y H Q => scal x y = true ∧ Q (.bl (!decide (x = y))) H

theorem dec_int {i j : Int} : decide (V.int i = V.int j) = (i == j) := by
  rw [Bool.eq_iff_iff]
  simp
theorem dec_bl {i j : Bool} : decide (V.bl i = V.bl j) = (i == j) := by
  rw [Bool.eq_iff_iff]
  simp
theorem dec_str {i j : Str} : decide (V.str i = V.str j) = (i == j) := by
  rw [Bool.eq_iff_iff]
  simp
theorem dec_byt {i j : Array UInt8} : decide (V.byt i = V.byt j) = (i.toList == j.toList) := by
  rw [Bool.eq_iff_iff]
  cases i
  cases j
  simp

section
variable {X : Cx} {a b c : Expr} {ta tb tc : TE} {pos : Pos}
theorem fin_bl {pins : List (Addr × Obj)} {σ : St} {H : Hp} {s : Shared} {Q : VK} {k k' : Bool} (I : Inv X pins σ H s) (q : Q (.bl k) H) (e : k = k') : EP X pins σ Q (.bool k') s := by
  subst e
  exact ⟨.bl k, H, I, rfl, q⟩
theorem op_eq : OpR X (compareOp .Eq) rEq := by
  intro pins s σ H x y v u Q I rx ry h
  obtain ⟨hs, q⟩ := h
  cases x with
  | non =>
    cases rx
    cases y with
    | non => cases ry; exact PySem.EqNone.eq_none_none (fin_bl I q (by simp))
    | bl j => cases ry; exact PySem.EqNone.eq_none_bool (fin_bl I q (by simp))
    | int j => obtain ⟨t', rfl⟩ := ry; exact PySem.EqNone.eq_none_int (fin_bl I q (by simp))
    | str j => obtain ⟨t', rfl⟩ := ry; exact PySem.EqNone.eq_none_str (fin_bl I q (by simp))
    | _ => exact absurd (show false = true from hs) Bool.false_ne_true
  | bl i =>
    cases rx
    cases y with
    | non => cases ry; exact PySem.EqNone.eq_bool_none (fin_bl I q (by simp))
    | bl j => cases ry; exact eq_bool (fin_bl I q dec_bl)
    | str j => obtain ⟨t', rfl⟩ := ry; exact PySem.EqMixed.eq_bool_str (fin_bl I q (by simp))
    | _ => exact absurd (show false = true from hs) Bool.false_ne_true
  | int i =>
    obtain ⟨t, rfl⟩ := rx
    cases y with
    | non => cases ry; exact PySem.EqNone.eq_int_none (fin_bl I q (by simp))
    | int j => obtain ⟨t', rfl⟩ := ry; exact eq_int (fin_bl I q dec_int)
    | str j => obtain ⟨t', rfl⟩ := ry; exact PySem.EqMixed.eq_int_str (fin_bl I q (by simp))
    | _ => exact absurd (show false = true from hs) Bool.false_ne_true
  | str i =>
    obtain ⟨t, rfl⟩ := rx
    cases y with
    | non => cases ry; exact PySem.EqNone.eq_str_none (fin_bl I q (by simp))
    | bl j => cases ry; exact PySem.EqMixed.eq_str_bool (fin_bl I q (by simp))
    | int j => obtain ⟨t', rfl⟩ := ry; exact PySem.EqMixed.eq_str_int (fin_bl I q (by simp))
    | str j => obtain ⟨t', rfl⟩ := ry; exact eq_str (fin_bl I q dec_str)
    | _ => exact absurd (show false = true from hs) Bool.false_ne_true
  | byt i =>
    obtain ⟨t, rfl⟩ := rx
    cases y with
    | byt j => obtain ⟨t', rfl⟩ := ry; exact PySem.W.eq_bytes (fin_bl I q dec_byt)
    | _ => exact absurd (show false = true from hs) Bool.false_ne_true
  | _ => cases y <;> exact absurd (show false = true from hs) Bool.false_ne_true
theorem op_ne : OpR X (compareOp .NotEq) rNe := by
  intro pins s σ H x y v u Q I rx ry h
  obtain ⟨hs, q⟩ := h
  cases x with
  | non =>
    cases rx
    cases y with
    | non => cases ry; exact PySem.EqNone.ne_none_none (fin_bl I q (by simp))
    | bl j => cases ry; exact PySem.EqNone.ne_none_bool (fin_bl I q (by simp))
    | int j => obtain ⟨t', rfl⟩ := ry; exact PySem.EqNone.ne_none_int (fin_bl I q (by simp))
    | str j => obtain ⟨t', rfl⟩ := ry; exact PySem.EqNone.ne_none_str (fin_bl I q (by simp))
    | _ => exact absurd (show false = true from hs) Bool.false_ne_true
  | bl i =>
    cases rx
    cases y with
    | non => cases ry; exact PySem.EqNone.ne_bool_none (fin_bl I q (by simp))
    | bl j => cases ry; exact ne_bool (fin_bl I q (congrArg not dec_bl))
    | str j => obtain ⟨t', rfl⟩ := ry; exact PySem.EqMixed.ne_bool_str (fin_bl I q (by simp))
    | _ => exact absurd (show false = true from hs) Bool.false_ne_true
  | int i =>
    obtain ⟨t, rfl⟩ := rx
    cases y with
    | non => cases ry; exact PySem.EqNone.ne_int_none (fin_bl I q (by simp))
    | int j => obtain ⟨t', rfl⟩ := ry; exact ne_int (fin_bl I q (congrArg not dec_int))
    | str j => obtain ⟨t', rfl⟩ := ry; exact PySem.EqMixed.ne_int_str (fin_bl I q (by simp))
    | _ => exact absurd (show false = true from hs) Bool.false_ne_true
  | str i =>
    obtain ⟨t, rfl⟩ := rx
    cases y with
    | non => cases ry; exact PySem.EqNone.ne_str_none (fin_bl I q (by simp))
    | bl j => cases ry; exact PySem.EqMixed.ne_str_bool (fin_bl I q (by simp))
    | int j => obtain ⟨t', rfl⟩ := ry; exact PySem.EqMixed.ne_str_int (fin_bl I q (by simp))
    | str j => obtain ⟨t', rfl⟩ := ry; exact ne_str (fin_bl I q (congrArg not dec_str))
    | _ => exact absurd (show false = true from hs) Bool.false_ne_true
  | byt i =>
    obtain ⟨t, rfl⟩ := rx
    cases y with
    | byt j => obtain ⟨t', rfl⟩ := ry; exact PySem.W.ne_bytes (fin_bl I q (congrArg not dec_byt))
    | _ => exact absurd (show false = true from hs) Bool.false_ne_true
  | _ => cases y <;> exact absurd (show false = true from hs) Bool.false_ne_true

theorem op_lt : OpR X (compareOp .Lt) (rI0 fun i j => .bl (decide (i < j))) := opB0 fun _ _ _ _ _ _ _ q => lt_int q
theorem op_le : OpR X (compareOp .LtE) (rI0 fun i j => .bl (decide (i ≤ j))) := opB0 fun _ _ _ _ _ _ _ q => le_int q
theorem op_gt : OpR X (compareOp .Gt) (rI0 fun i j => .bl (decide (j < i))) := opB0 fun _ _ _ _ _ _ _ q => gt_int q
/-- the one string within the other -/
theorem op_in_str : OpR X (compareOp .In) (fun x y H Q => ∃ i j, x = .str i ∧ y = .str j ∧ Q (.bl (!(Builtin.Str.occurrences j i 0 j.length 1).isEmpty)) H) := by
  intro pins s σ H x y v u Q I rx ry h
  obtain ⟨i, j, rfl, rfl, q⟩ := h
  obtain ⟨t, rfl⟩ := rx
  obtain ⟨t', rfl⟩ := ry
  exact in_str (fin_bl I q rfl)




theorem nomark (b : Expr) {op : CmpOp} (h : op ≠ .In := by decide) (h2 : op ≠ .NotIn := by decide) : behindInMarks op b = false := by
  have e1 : (op == CmpOp.In) = false := by cases op <;> first | rfl | exact absurd rfl h
  have e2 : (op == CmpOp.NotIn) = false := by cases op <;> first | rfl | exact absurd rfl h2
  cases b <;> simp [behindInMarks, e1, e2]
/-- a comparison as a value; hm: nomark b, or (for in, not in) by with_unfolding_all rfl -/
theorem pe_cmpR {op : CmpOp} {r : R2} (ho : OpR X (compareOp op) r) (ha : PE X a ta) (hb : PE X b tb) (hm : behindInMarks op b = false) : PE X (.Compare a [op] [b] pos) (tOp r ta tb) := by
  intro pins s σ H Q I h
  exact wpAny_Compare1 (binT ha hb I h fun v u s2 x y H2 I2 rx ry q => ho pins s2 σ H2 x y v u Q I2 rx ry q) hm
/-- a reading of a value as a test -/
noncomputable def tTest (t : TE) : TT := fun σ H Q => t σ H fun x H' => ∃ k, x = .bl k ∧ Q k H'
theorem pt_cmpR {op : CmpOp} {r : R2} (ho : OpR X (compareOp op) r) (ha : PE X a ta) (hb : PE X b tb) (hm : behindInMarks op b = false) : PT X (.Compare a [op] [b] pos) (tTest (tOp r ta tb)) := by
  intro pins s σ H Q I h
  refine wpAny_isTrue_Compare1 (thn (ha pins s σ H _ I h) fun v s1 ⟨x, H1, I1, r1, q1⟩ => thn (hb pins s1 σ H1 _ I1 q1) fun u s2 ⟨y, H2, I2, r2, q2⟩ =>
    thn (ho pins s2 σ H2 x y v u _ I2 r1 r2 q2) fun c s3 ⟨z, H3, I3, r3, k, e, q3⟩ => ?_) hm
  subst e
  cases r3
  exact wpAny_truthy_bool ⟨H3, I3, q3⟩
/-- a op1 b op2 c -/
noncomputable def tChain (r r' : R2) (ta tb tc : TE) : TE := fun σ H Q => ta σ H fun x H1 => tb σ H1 fun y H2 => r x y H2 fun z H3 => ∃ k, z = .bl k ∧
  (if k = true then tc σ H3 fun w' H4 => r' y w' H4 Q else Q (.bl false) H3)
theorem pe_chain {op op' : CmpOp} {r r' : R2} (ho : OpR X (compareOp op) r) (ho' : OpR X (compareOp op') r') (ha : PE X a ta) (hb : PE X b tb) (hc : PE X c tc)
    (hm : lastMarks [op, op'] [b, c] = false := by with_unfolding_all rfl) : PE X (.Compare a [op, op'] [b, c] pos) (tChain r r' ta tb tc) := by
  intro pins s σ H Q I h
  refine Compare_chain (thn (ha pins s σ H _ I h) fun v s1 ⟨x, H1, I1, r1, q1⟩ => chain_link (thn (hb pins s1 σ H1 _ I1 q1) fun u s2 ⟨y, H2, I2, r2, q2⟩ =>
    thn (ho pins s2 σ H2 x y v u _ I2 r1 r2 q2) fun d s3 ⟨z, H3, I3, r3, k, e, q3⟩ => ?_)) hm
  subst e
  cases r3
  refine wpAny_truthy_bool ?_
  cases k with
  | false => exact ite_ff ⟨.bl false, H3, I3, rfl, q3⟩
  | true => exact ite_tt (chain_last (thn (hc pins s3 σ H3 _ I3 q3) fun w' s4 ⟨z', H4, I4, r4, q4⟩ => ho' pins s4 σ H4 y z' u w' Q I4 r2 r4 q4))
theorem pt_chain {op op' : CmpOp} {r r' : R2} (ho : OpR X (compareOp op) r) (ho' : OpR X (compareOp op') r') (ha : PE X a ta) (hb : PE X b tb) (hc : PE X c tc)
    (hm : lastMarks [op, op'] [b, c] = false := by with_unfolding_all rfl) : PT X (.Compare a [op, op'] [b, c] pos) (tTest (tChain r r' ta tb tc)) := by
  intro pins s σ H Q I h
  refine isTrue_chain (thn (ha pins s σ H _ I h) fun v s1 ⟨x, H1, I1, r1, q1⟩ => test_link (thn (hb pins s1 σ H1 _ I1 q1) fun u s2 ⟨y, H2, I2, r2, q2⟩ =>
    thn (ho pins s2 σ H2 x y v u _ I2 r1 r2 q2) fun d s3 ⟨z, H3, I3, r3, k, e, q3⟩ => ?_)) hm
  subst e
  cases r3
  refine wpAny_truthy_bool ?_
  cases k with
  | false =>
    obtain ⟨k', e', q'⟩ := q3
    cases e'
    exact ite_ff ⟨H3, I3, q'⟩
  | true =>
    refine ite_tt (test_last (thn (hc pins s3 σ H3 _ I3 q3) fun w' s4 ⟨z', H4, I4, r4, q4⟩ => thn (ho' pins s4 σ H4 y z' u w' _ I4 r2 r4 q4) fun d' s5 ⟨z2, H5, I5, r5, k2, e2, q5⟩ => ?_))
    subst e2
    cases r5
    exact wpAny_truthy_bool ⟨H5, I5, q5⟩

/-! ### truth -/
/-- a value's truth by the abstract heap -/
noncomputable def TruV (K : PySem.W.Frag) (x : V) (H : Hp) (k : Bool) : Prop :=
  match x with
  | .non => k = false
  | .bl b => k = b
  | .int i => k = (i != 0)
  | .str y => y.length ≤ sizeLine ∧ k = ((y.length : Int) != 0)
  | .byt y => y.size ≤ sizeLine ∧ k = ((y.size : Int) != 0)
  | .ref p => (∃ xs, SqL K H p xs ∧ k = !xs.isEmpty) ∨ (∃ xs, SqT K H p xs ∧ k = !xs.isEmpty) ∨ ∃ kvs, H p = some (.dK kvs) ∧ k = !kvs.isEmpty
  | _ => False
theorem isEmpty_kv {κ : Type} {kvs : List (κ × V)} {vs : List (κ × Value)} (r : KV kvs vs) : (!vs.isEmpty) = !kvs.isEmpty := by
  cases r <;> rfl
theorem isEmpty_of {xs : List V} {its : List Value} (r : Vals xs its) : (!its.toArray.isEmpty) = !xs.isEmpty := by
  cases r <;> simp
theorem line63 : (sizeLine : Nat) < 2 ^ 63 := by rw [sizeLine_eq]; decide
theorem tru_ok : TruR X (fun x H Q => ∃ k, TruV X.K x H k ∧ Q k H) := by
  intro pins s σ H x v Q I rx h
  obtain ⟨k, e, q⟩ := h
  have hl := line63
  have hs : sizeLine = 16777216 := sizeLine_eq
  cases x with
  | non =>
    cases rx
    have e' : k = false := e
    subst e'
    exact truthy_none ⟨H, I, q⟩
  | bl b =>
    cases rx
    have e' : k = b := e
    subst e'
    exact wpAny_truthy_bool ⟨H, I, q⟩
  | int i =>
    obtain ⟨t, rfl⟩ := rx
    have e' : k = (i != 0) := e
    subst e'
    exact PySem.P.truthy_int ⟨H, I, q⟩
  | str y =>
    obtain ⟨t, rfl⟩ := rx
    obtain ⟨hy, e'⟩ : y.length ≤ sizeLine ∧ k = ((y.length : Int) != 0) := e
    subst e'
    exact PySem.P.truthy_str (by omega) ⟨H, I.tok _, q⟩
  | byt y =>
    obtain ⟨t, rfl⟩ := rx
    obtain ⟨hy, e'⟩ : y.size ≤ sizeLine ∧ k = ((y.size : Int) != 0) := e
    subst e'
    exact PySem.W.truthy_bytes (by omega) ⟨H, I.tok _, q⟩
  | ref p =>
    cases rx
    have e' : (∃ xs, SqL X.K H p xs ∧ k = !xs.isEmpty) ∨ (∃ xs, SqT X.K H p xs ∧ k = !xs.isEmpty) ∨ ∃ kvs, H p = some (.dK kvs) ∧ k = !kvs.isEmpty := e
    rcases e' with ⟨xs, hx, e'⟩ | ⟨xs, hx, e'⟩ | ⟨kvs, hx, e'⟩
    · subst e'
      obtain ⟨its, r, pl, hz⟩ := I.list hx
      have hlen := r.length
      exact wpAny_truthy_list pl.isList (by simp only [List.size_toArray]; omega) ⟨H, I.tok _, by rw [isEmpty_of r]; exact q⟩
    · subst e'
      obtain ⟨its, r, pl, hz⟩ := I.tuple hx
      have hlen := r.length
      exact truthy_tuple pl (by simp only [List.size_toArray]; omega) ⟨H, I.tok _, by rw [isEmpty_of r]; exact q⟩
    · subst e'
      obtain ⟨hz, hS, vs, r, m⟩ : kvs.length ≤ sizeLine ∧ (p == sysModules) = false ∧ ∃ vs, KV kvs vs ∧ s.heap.DictOf (mixKind X.prog X.w) p vs := I.hok p _ hx
      have hlen : kvs.length = vs.length := Paired.length r
      exact wpAny_truthy_dict hS m (by omega) ⟨H, I.tok _, by rw [isEmpty_kv r]; exact q⟩
  | _ => exact (show False from e).elim
/-- any expression whose test is its value's truth (a name, a call, a subscript, a field ..: he by fun _ => rfl) -/
theorem pt_truth (ha : PE X a ta) (he : ∀ whole, isTrue a X.env whole = (do let v ← whole; standAt a.pos; holding [v] (truthy v))) :
    PT X a (fun σ H Q => ta σ H fun x H' => ∃ k, TruV X.K x H' k ∧ Q k H') := by
  intro pins s σ H Q I h
  exact isTrue_plain (thn (ha pins s σ H _ I h) fun v s1 ⟨x, H1, I1, r1, q1⟩ => tru_ok pins s1 σ H1 x v Q I1 r1 q1) (he _)

/-! ### strs and bytes -/
theorem op_add_str : OpR X (binaryOp .Add) (fun x y H Q => ∃ i j, x = .str i ∧ y = .str j ∧ i.length + j.length ≤ sizeLine ∧ Q (.str (i ++ j)) H) := by
  intro pins s σ H x y v u Q I rx ry h
  obtain ⟨i, j, rfl, rfl, hz, q⟩ := h
  obtain ⟨t, rfl⟩ := rx
  obtain ⟨t', rfl⟩ := ry
  exact add_str (fun t' tk => ⟨.str (i ++ j), H, I.tok _, ⟨_, rfl⟩, q⟩) hz


/-! ### scalar builtins, by CallR -/
theorem vals1 {x : V} {us : List Value} (r : Vals [x] us) : ∃ u, us = [u] ∧ RelV x u := by
  cases r with
  | cons r1 r2 => cases r2; exact ⟨_, rfl, r1⟩
theorem call_int1 : CallR X (.type "int") (fun xs H Q => (∃ i, xs = [.int i] ∧ Q (.int i) H) ∨ ∃ k, xs = [.bl k] ∧ Q (.int (if k then 1 else 0)) H) := by
  intro pins s σ H xs us Q I r h
  rcases h with ⟨i, rfl, q⟩ | ⟨k, rfl, q⟩
  · obtain ⟨u, rfl, t, rfl⟩ := vals1 r
    exact call_int_int ⟨.int i, H, I, ⟨_, rfl⟩, q⟩
  · obtain ⟨u, rfl, r1⟩ := vals1 r
    cases r1
    exact call_int_bool ⟨.int (if k then 1 else 0), H, I.tok _, ⟨_, rfl⟩, q⟩
theorem call_str_int : CallR X (.type "str") (fun xs H Q => ∃ i, xs = [.int i] ∧ i.natAbs.log2 < 1920 ∧ Q (.str (toString i)) H) := by
  intro pins s σ H xs us Q I r h
  obtain ⟨i, rfl, hz, q⟩ := h
  obtain ⟨u, rfl, t, rfl⟩ := vals1 r
  exact PySem.P.str_of_int hz ⟨.str _, H, I.tok _, ⟨_, rfl⟩, q⟩
end
end L2

namespace L2
open PySem PySem.Spec PyProof.Rows

/-! ### an instance, its attributes a map -/
structure ObjM (h : Heap) (x dx C : Addr) (mA : Str → Option Value) : Prop where
  obj : h.get? x = some (PySem.W.instObj C dx)
  ns : h.Ns1 dx mA
  ne : dx ≠ x

theorem lookIn_ns {h : Heap} {dx : Addr} {mA : Str → Option Value} (n : h.Ns1 dx mA) : ∃ od, h.get? dx = some od ∧ ∀ name, PySem.W.lookIn name od = some (mA name) := by
  obtain ⟨o, es, ep, ho, hd, hk, _, hm⟩ := n
  refine ⟨o, ho, fun name => ?_⟩
  have e := hm name
  unfold nsFind findBy at e
  rw [← Array.find?_toList] at e
  unfold PySem.W.lookIn
  rw [hd]
  dsimp only
  split
  · rename_i y q
    rw [q] at e
    exact congrArg some e
  · rename_i q
    rw [q] at e
    have a : es.toList.any (·.refKey) = false := by
      rw [List.any_eq_false]
      intro y hy
      obtain ⟨z, t, hkey⟩ := hk y (Array.mem_toList_iff.mp hy)
      simp [DictEntry.refKey, hkey]
    have a' : ¬ es.toList.any (·.refKey) = true := by rw [a]; exact Bool.false_ne_true
    rw [if_neg a']
    exact congrArg some e

theorem ObjM.look {h : Heap} {x dx C : Addr} {mA : Str → Option Value} (I : ObjM h x dx C mA) : ∃ od, PySem.W.InstAt h x (PySem.W.instObj C dx) C (some od) ∧ ∀ name, PySem.W.lookIn name od = some (mA name) :=
  let ⟨od, ho, hl⟩ := lookIn_ns I.ns
  ⟨od, ⟨I.obj, rfl, rfl, ho⟩, hl⟩

section
variable {prog : Program} {w : World} {A : Around} {E : Value → Shared → Prop} {s : Shared} {K : PySem.W.Frag} {x dx C f : Addr} {mA : Str → Option Value} {name : Str} {v : Value}

theorem get_map {expr : Bool} {Q : Value → Shared → Prop} (X : K.In s.heap) (I : ObjM s.heap x dx C mA) (hg : PySem.W.plainGet K C name = true) (hh : PySem.W.hasDictIn K C = true)
    (ha : PySem.W.findIn K (.ref C) name = some none) (hv : mA name = some v) (hv' : PySem.W.handedIn v = true) (h : Q v { s with toks := s.toks + 1 }) :
    wpAny (model prog w) A (getAttr (.ref x) name expr) Q E s := by
  obtain ⟨od, J, hl⟩ := I.look
  exact PySem.W.get_value X J (PySem.W.plainGet_of hg).1 (PySem.W.findObj_own hh ha rfl (by rw [hl, hv])) hv' h


theorem get_meth {pl : Sem Bool} {Q : Value × List Value → Shared → Prop} (X : K.In s.heap) (I : ObjM s.heap x dx C mA) (hg : PySem.W.plainGet K C name = true)
    (hf : PySem.W.findIn K (.ref C) name = some (some (.ref f))) (ht : PySem.W.isFn K (.ref f) = true) (hv : mA name = none) (h : Q (.ref f, [.ref x]) s) :
    wpAny (model prog w) A (getMethod (.ref x) name pl) Q E s := by
  obtain ⟨od, J, hl⟩ := I.look
  exact PySem.W.method_fn X J (PySem.W.plainGet_of hg).1 (PySem.W.plainGet_of hg).2 hf (beq_iff_eq.mp ht) (by show (PySem.W.lookIn name od).map (·.isSome) = some false; rw [hl, hv]; rfl) h

theorem set_map {ns : List Str} {Q : Unit → Shared → Prop} (X : K.In s.heap) (I : ObjM s.heap x dx C mA)
    (hs : PySem.W.findIn K (.ref C) "__setattr__" = some (some (.builtin "object.__setattr__"))) (hp : PySem.W.plainOver K C = true) (ht : PySem.W.takerIn K C name = some none) (hh : PySem.W.hasDictIn K C = true)
    (hw : PySem.Within mA ns) (hsz : ns.length ≤ sizeLine)
    (h : ∀ h', ObjM h' x dx C (fun y => if y = name then some v else mA y) → Heap.SameBut dx s.heap h' → Q () { s with heap := h', toks := s.toks + 2 }) :
    wpAny (model prog w) A (setAttr (.ref x) name v) Q E s := by
  obtain ⟨od, J, hl⟩ := I.look
  refine PySem.W.set_plain X J hs (PySem.W.osa_open (s := { s with toks := s.toks + 1 }) (r := none) X J hp ht fun b => ?_)
  obtain ⟨cd, hc, hd'⟩ := PySem.W.any_some hh
  have hx : s.heap.get? x = some ⟨.ref C, some dx, .plain, #[]⟩ := I.obj
  refine wpAny_bind (wpAny_pure (wpAny_bind (wpAny_bind (wpAny_loadPart hx (wpAny_bind (PySem.W.Looks.here (s := { s with toks := s.toks + 1 }) (PySem.W.looks_clsIn X hc) ?_))))))
  rw [hd']
  refine wpAny_pure (a := some dx) (wpAny_bind (wpAny_pure (wpAny_bind ?_)))
  refine wpAny_nsSet1 (s := { s with toks := s.toks + 1 }) I.ns fun h' hn2 hs2 => ?_
  obtain ⟨oD, esD, epD, hoD, hdD, hcD⟩ := hn2.count (PySem.Within.cons name v hw)
  refine wpAny_bind (wpAny_lookBehind hoD (by rw [hdD]; exact pastItsLine_dict (Nat.le_trans hcD (by rw [List.length_cons]; omega))) ?_)
  exact wpAny_pure (h _ ⟨(hs2.2 _ (Ne.symm I.ne)).trans I.obj, hn2, I.ne⟩ hs2)

/-- C(..): the dict at the heap's end, the instance behind it; then its __init__ -/
theorem make_map {R : Result → Shared → Prop} {vs : List Value} {kw : List (Str × Value)} (X : K.In s.heap) (hm : PySem.W.makesIn K C = true)
    (hi : PySem.W.findIn K (.ref C) "__init__" = some (some (.ref f))) (hf : PySem.W.typeIn K (.ref f) = some (.type "function"))
    (h : codeAny (model prog w) (A.under (.builtin "type.__call__" ⟨.ref C :: vs, kw⟩)) (.call (.ref f) ⟨.ref (s.heap.objs.size + 1) :: vs, kw⟩) (PySem.W.InitBack (s.heap.objs.size + 1) R)
      { s with heap := (s.heap.push PySem.W.emptyDict).push (PySem.W.instObj C s.heap.objs.size) }) :
    codeAny (model prog w) A (.call (.ref C) ⟨vs, kw⟩) R s := by
  obtain ⟨hh, g, d, t, os⟩ := s
  exact PySem.W.make_core (PySem.W.makes_of X hm) (PySem.W.looks_findIn X hi) (fun self => PySem.W.bind_fn X self hf) (.inl rfl) h
end

/-! ### the attributes as a list of pairs -/
noncomputable def putF (f : Str) (v : V) : List (Str × V) → List (Str × V)
  | [] => [(f, v)]
  | (g, x) :: r => if g = f then (g, v) :: r else (g, x) :: putF f v r
theorem lookup_putF (f g : Str) (v : V) : ∀ fs : List (Str × V), (putF f v fs).lookup g = if g = f then some v else fs.lookup g
  | [] => by
    show List.lookup g [(f, v)] = _
    by_cases h : g = f
    · have hb : (g == f) = true := beq_iff_eq.mpr h
      simp only [List.lookup, hb, if_pos h]
    · have hb : (g == f) = false := beq_eq_false_iff_ne.mpr h
      simp only [List.lookup, hb, if_neg h]
  | (k, x) :: r => by
    have ih := lookup_putF f g v r
    rw [show putF f v ((k, x) :: r) = (if k = f then (k, v) :: r else (k, x) :: putF f v r) from rfl]
    by_cases hk : k = f
    · rw [if_pos hk]
      by_cases h : g = k
      · have hb : (g == k) = true := beq_iff_eq.mpr h
        simp only [List.lookup, hb, if_pos (h.trans hk)]
      · have hb : (g == k) = false := beq_eq_false_iff_ne.mpr h
        simp only [List.lookup, hb, if_neg (fun e : g = f => h (e.trans hk.symm))]
    · rw [if_neg hk]
      by_cases h : g = k
      · have hb : (g == k) = true := beq_iff_eq.mpr h
        simp only [List.lookup, hb, if_neg (fun e : g = f => hk (h.symm.trans e))]
      · have hb : (g == k) = false := beq_eq_false_iff_ne.mpr h
        simp only [List.lookup, hb]
        exact ih
theorem keys_putF (f : Str) (v : V) : ∀ fs : List (Str × V), f ∈ (putF f v fs).map (·.1) ∧ ∀ g, g ∈ fs.map (·.1) → g ∈ (putF f v fs).map (·.1)
  | [] => ⟨by simp [putF], fun g h => by simp at h⟩
  | (k, x) :: r => by
    obtain ⟨i1, i2⟩ := keys_putF f v r
    rw [show putF f v ((k, x) :: r) = (if k = f then (k, v) :: r else (k, x) :: putF f v r) from rfl]
    by_cases hk : k = f
    · rw [if_pos hk]
      subst hk
      exact ⟨by simp, fun g h => by simpa using h⟩
    · rw [if_neg hk]
      refine ⟨?_, fun g h => ?_⟩
      · rw [List.map_cons]
        exact List.mem_cons_of_mem _ i1
      · rw [List.map_cons] at h ⊢
        rcases List.mem_cons.mp h with e | e
        · exact List.mem_cons.mpr (.inl e)
        · exact List.mem_cons_of_mem _ (i2 g e)
theorem length_putF (f : Str) (v : V) : ∀ fs : List (Str × V), (putF f v fs).length ≤ fs.length + 1
  | [] => by simp [putF]
  | (k, x) :: r => by
    have ih := length_putF f v r
    rw [show putF f v ((k, x) :: r) = (if k = f then (k, v) :: r else (k, x) :: putF f v r) from rfl]
    by_cases hk : k = f
    · rw [if_pos hk, List.length_cons, List.length_cons]; omega
    · rw [if_neg hk, List.length_cons, List.length_cons]; omega

theorem RelO.some_of {v : V} {o : Option Value} (r : RelO (some v) o) : ∃ u, o = some u ∧ RelV v u := by
  cases o with
  | none => exact (show False from r).elim
  | some u => exact ⟨u, rfl, r⟩
theorem RelO.none_of {o : Option Value} (r : RelO none o) : o = none := by
  cases o with
  | none => rfl
  | some u => exact (show False from r).elim
theorem handed_of {v : V} {u : Value} (r : RelV v u) : PySem.W.handedIn u = true := by
  cases v with
  | non => cases (show u = Value.none from r); rfl
  | bl b => cases (show u = Value.bool b from r); rfl
  | int i => obtain ⟨t, e⟩ := (show ∃ t, u = Value.int i t from r); cases e; rfl
  | str x => obtain ⟨t, e⟩ := (show ∃ t, u = Value.str x t from r); cases e; rfl
  | byt b => obtain ⟨t, e⟩ := (show ∃ t, u = Value.bytes b t from r); cases e; rfl
  | flt b => obtain ⟨t, e⟩ := (show ∃ t, u = Value.float b t from r); cases e; rfl
  | ref a => cases (show u = Value.ref a from r); rfl
  | ty n => cases (show u = Value.type n from r); rfl

section
variable {P : Program} {w : World} {H H' : Hp} {h h' : Heap} {a C dx : Addr} {fs fs' : List (Str × V)}
theorem ins_get (hok : HOk P w H h) (e : H a = some (.ins C dx fs)) : ∃ mA, ObjM h a dx C mA ∧ (∀ f, RelO (fs.lookup f) (mA f)) ∧ PySem.Within mA (fs.map (·.1)) ∧ fs.length ≤ 1000 ∧ H dx = some (.own a) := by
  obtain ⟨d, z, ne, ob, mA, n, r, q⟩ := (show ObjOk P w H h a (.ins C dx fs) from hok a _ e)
  exact ⟨mA, ⟨ob, n, ne⟩, r, q, z, d⟩
end

/-! ### what of the text a class must have -/
structure Cls (K : PySem.W.Frag) (C : Addr) : Prop where
  pg : PySem.W.plainGet K C Str.empty = true
  hd : PySem.W.hasDictIn K C = true
  po : PySem.W.plainOver K C = true
  sa : PySem.W.findIn K (.ref C) "__setattr__" = some (some (.builtin "object.__setattr__"))
theorem Cls.get {K : PySem.W.Frag} {C : Addr} (c : Cls K C) (f : Str) : PySem.W.plainGet K C f = true := c.pg
/-- no class of it has the name -/
noncomputable def NoAttr (K : PySem.W.Frag) (C : Addr) (f : Str) : Prop := PySem.W.findIn K (.ref C) f = some none
theorem NoAttr.taker {K : PySem.W.Frag} {C : Addr} {f : Str} (n : NoAttr K C f) : PySem.W.takerIn K C f = some none := by
  unfold PySem.W.takerIn
  rw [show PySem.W.findIn K (.ref C) f = some none from n]
  rfl
/-- a method: a plain def of the class or of one above it -/
structure Meth (K : PySem.W.Frag) (C : Addr) (m : Str) (f : Addr) : Prop where
  at_ : PySem.W.findIn K (.ref C) m = some (some (.ref f))
  fn : PySem.W.isFn K (.ref f) = true
  kp : PySem.W.keepIn K (.ref f) = true

section
variable {X : Cx} {pins : List (Addr × Obj)} {σ : St} {H : Hp} {s : Shared} {a C dx : Addr} {fs : List (Str × V)} {f : Str} {v : V} {A : Around} {E : Value → Shared → Prop}

theorem getattr_ok {b : Bool} {Q : Value → Shared → Prop} (I : Inv X pins σ H s) (e : H a = some (.ins C dx fs)) (c : Cls X.K C) (n : NoAttr X.K C f) (l : fs.lookup f = some v)
    (h : ∀ u s', Inv X pins σ H s' → RelV v u → Q u s') : wpAny (model X.prog X.w) A (getAttr (.ref a) f b) Q E s := by
  obtain ⟨mA, O, r, _, _, _⟩ := ins_get I.hok e
  obtain ⟨u, hu, ru⟩ := RelO.some_of (v := v) (o := mA f) (by rw [← l]; exact r f)
  exact get_map I.kIn O (c.get f) c.hd n hu (handed_of ru) (h u _ (I.tok _) ru)


theorem getmeth_ok {m : Str} {g : Addr} {pl : Sem Bool} {Q : Value × List Value → Shared → Prop} (I : Inv X pins σ H s) (e : H a = some (.ins C dx fs)) (c : Cls X.K C) (k : Meth X.K C m g) (l : fs.lookup m = none)
    (h : Q (.ref g, [.ref a]) s) : wpAny (model X.prog X.w) A (getMethod (.ref a) m pl) Q E s := by
  obtain ⟨mA, O, r, _, _, _⟩ := ins_get I.hok e
  have hn : mA m = none := RelO.none_of (by rw [← l]; exact r m)
  exact get_meth I.kIn O (c.get m) k.at_ k.fn hn h

theorem setattr_ok {y : V} {u : Value} {Q : Unit → Shared → Prop} (I : Inv X pins σ H s) (e : H a = some (.ins C dx fs)) (c : Cls X.K C) (n : NoAttr X.K C f) (hl : fs.length < 1000) (ry : RelV y u)
    (h : ∀ s', Inv X pins σ (upd H a (.ins C dx (putF f y fs))) s' → Q () s') : wpAny (model X.prog X.w) A (setAttr (.ref a) f u) Q E s := by
  obtain ⟨mA, O, r, wi, _, ho⟩ := ins_get I.hok e
  have hz : (fs.map (·.1)).length ≤ sizeLine := by rw [List.length_map, sizeLine_eq]; omega
  refine set_map I.kIn O c.sa c.po n.taker c.hd wi hz fun h' O' sb => h _ ?_
  have hd : ∃ o, h'.get? dx = some o := let ⟨o, _, _, e', _⟩ := O'.ns; ⟨o, e'⟩
  refine I.write (x := a) (e := dx) (by rw [e]; exact True.intro) (.inr ho) (fun b q hb z => (sb.2 b hb).trans z) hd ?_
  refine ⟨by rw [upd_ne O.ne]; exact ho, ?_, O.ne, O'.obj, _, O'.ns, fun g => ?_, fun g hg => ?_⟩
  · have := length_putF f y fs; omega
  · show RelO ((putF f y fs).lookup g) (if g = f then some u else mA g)
    rw [lookup_putF]
    by_cases q : g = f
    · rw [if_pos q, if_pos q]; exact ry
    · rw [if_neg q, if_neg q]; exact r g
  · by_cases q : g = f
    · rw [q]; exact (keys_putF f y fs).1
    · refine (keys_putF f y fs).2 g (wi g fun z => hg ?_)
      show (if g = f then some u else mA g) = none
      rw [if_neg q]; exact z

/-- a new instance, tracked, without attributes -/
theorem Inv.made (I : Inv X pins σ H s) : Inv X pins σ (upd (upd H s.heap.objs.size (.own (s.heap.objs.size + 1))) (s.heap.objs.size + 1) (.ins C s.heap.objs.size []))
    { s with heap := (s.heap.push PySem.W.emptyDict).push (PySem.W.instObj C s.heap.objs.size) } := by
  have e1 : (s.heap.push PySem.W.emptyDict).get? s.heap.objs.size = some PySem.W.emptyDict := Heap.get?_push_size s.heap rfl
  have e2 : ((s.heap.push PySem.W.emptyDict).push (PySem.W.instObj C s.heap.objs.size)).get? (s.heap.objs.size + 1) = some (PySem.W.instObj C s.heap.objs.size) := by
    have := Heap.get?_push_size (s.heap.push PySem.W.emptyDict) (o := PySem.W.instObj C s.heap.objs.size) rfl
    rwa [Heap.size_push] at this
  have e3 : (s.heap.push PySem.W.emptyDict).Ns s.heap.objs.size (fun _ => none) := ⟨PySem.W.emptyDict, #[], _, e1, rfl, (fun e he => absurd he (by simp)), fun _ => rfl⟩
  have I1 := I.laid (a := s.heap.objs.size) (o := .own (s.heap.objs.size + 1)) (h' := s.heap.push PySem.W.emptyDict) (t' := s.toks) (fun b u q => Heap.get?_push_of_some _ q) (Nat.le_refl _) ⟨_, e1⟩
  refine I1.laid (a := s.heap.objs.size + 1) (o := .ins C s.heap.objs.size []) (t' := s.toks) (fun b u q => Heap.get?_push_of_some _ q) (Nat.le_of_eq (Heap.size_push _ _)) ?_
  have ne : s.heap.objs.size ≠ s.heap.objs.size + 1 := Nat.ne_of_lt (Nat.lt_succ_self _)
  refine ⟨by rw [upd_ne ne, upd_same], Nat.zero_le _, ne, e2, fun _ => none, (Heap.Ns1.of_empty e3).at fun o q => Heap.get?_push_of_some _ q, fun _ => True.intro, fun y hy => absurd rfl hy⟩

/-- e.f where nothing but the object is asked: through attributeBase (super) and the last hold -/
theorem attr_of {prog : Program} {w : World} {env : Env} {e : Expr} {f : Str} {pos : Pos} {s : Shared} {Q : Value → Shared → Prop} (hb : attributeBase e f env (eval e env) = eval e env)
    (h : wpAny (model prog w) A (eval e env) (fun o s₁ => wpAny (model prog w) A (getAttr o f true) Q E s₁) E s) : wpAny (model prog w) A (eval (.Attribute e f pos) env) Q E s :=
  Attribute_any_ h (by rw [arm_eval_Attribute, hb])
end

/-! ### readings and rules -/
/-- e.f, an attribute of the instance -/
noncomputable def tFld (K : PySem.W.Frag) (ta : TE) (f : Str) : TE := fun σ H Q => ta σ H fun x H1 => ∃ a C dx fs v, x = .ref a ∧ H1 a = some (.ins C dx fs) ∧ Cls K C ∧ NoAttr K C f ∧ fs.lookup f = some v ∧ Q v H1
/-- e.f = value -/
noncomputable def sFld (K : PySem.W.Frag) (ta tv : TE) (f : Str) : TS := fun D σ H => tv σ H fun y H1 => ta σ H1 fun x H2 => ∃ a C dx fs, x = .ref a ∧ H2 a = some (.ins C dx fs) ∧ Cls K C ∧ NoAttr K C f ∧ fs.length < 1000 ∧
  D.nx σ (upd H2 a (.ins C dx (putF f y fs)))
/-- an augmented operator on two values -/
noncomputable def InOp (X : Cx) (op : Operator) (rd : V → V → Hp → VK → Prop) : Prop :=
  ∀ (pins : List (Addr × Obj)) (s : Shared) (σ : St) (H : Hp) (x y : V) (u v : Value) (Q : VK), Inv X pins σ H s → RelV x u → RelV y v → rd x y H Q → wpAny (model X.prog X.w) X.A (inplaceOp op u v) (EP X pins σ Q) X.xe s
/-- e.f op= value -/
noncomputable def sFldAug (K : PySem.W.Frag) (ta tv : TE) (rd : V → V → Hp → VK → Prop) (f : Str) : TS := fun D σ H => ta σ H fun x H1 => ∃ a C dx fs v, x = .ref a ∧ H1 a = some (.ins C dx fs) ∧ Cls K C ∧ NoAttr K C f ∧ fs.lookup f = some v ∧
  tv σ H1 fun y H2 => rd v y H2 fun z H3 => ∃ dx' fs', H3 a = some (.ins C dx' fs') ∧ fs'.length < 1000 ∧ D.nx σ (upd H3 a (.ins C dx' (putF f z fs')))

section
variable {X : Cx} {o e value : Expr} {f : Str} {pos pos' tpos : Pos} {ta tv : TE}
theorem pe_fld (he : PE X e ta) (hb : attributeBase e f X.env (eval e X.env) = eval e X.env) : PE X (.Attribute e f pos) (tFld X.K ta f) := by
  intro pins s σ H Q I h
  refine attr_of hb (thn (he pins s σ H _ I h) fun u s1 ⟨x, H1, I1, rx, a, C, dx, fs, v, ex, ea, c, n, l, q⟩ => ?_)
  subst ex
  obtain rfl : u = Value.ref a := rx
  exact getattr_ok I1 ea c n l fun u' s2 I2 ru => ⟨v, H1, I2, ru, q⟩
theorem ps_fld (ha : PE X o ta) (hv : PE X value tv) (hs : swapsWith value (some (.Attribute o f pos')) pos.line X.env = pure false) : PS X (.Assign [.Attribute o f pos'] value pos) (sFld X.K ta tv f) := by
  intro pins s σ H D I h
  refine plainObj_wpAny_Assign_Attribute (thn (hv pins s σ H _ I h) fun u s1 ⟨y, H1, I1, ry, q⟩ => thn (ha pins s1 σ H1 _ I1 q) fun ov s2 ⟨x, H2, I2, rx, a, C, dx, fs, ex, ea, c, n, l, q2⟩ => ?_) hs
  subst ex
  obtain rfl : ov = Value.ref a := rx
  exact setattr_ok I2 ea c n l ry fun s3 I3 => ⟨σ, _, I3, q2⟩
theorem ps_fldaug {op : Operator} {rd : V → V → Hp → VK → Prop} (ha : PE X o ta) (hv : PE X value tv) (hop : InOp X op rd) : PS X (.AugAssign (.Attribute o f tpos) op value pos) (sFldAug X.K ta tv rd f) := by
  intro pins s σ H D I h
  refine wpAny_AugAssign_AttributeAny (thn (ha pins s σ H _ I h) fun ov s1 ⟨x, H1, I1, rx, a, C, dx, fs, v, ex, ea, c, n, l, q⟩ => ?_)
  subst ex
  obtain rfl : ov = Value.ref a := rx
  refine getattr_ok I1 ea c n l fun u s2 I2 ru => thn (hv pins s2 σ H1 _ I2 q) fun w3 s3 ⟨y, H2, I3, ry, q3⟩ => thn (hop pins s3 σ H2 v y u w3 _ I3 ru ry q3) fun w4 s4 ⟨z, H3, I4, rz, dx', fs', ea', l', q4⟩ => ?_
  exact setattr_ok I4 ea' c n l' rz fun s5 I5 => ⟨σ, _, I5, q4⟩
noncomputable def rAdd : V → V → Hp → VK → Prop := fun x y H Q => ∃ i j, x = .int i ∧ y = .int j ∧ Q (.int (i + j)) H
noncomputable def rSub : V → V → Hp → VK → Prop := fun x y H Q => ∃ i j, x = .int i ∧ y = .int j ∧ Q (.int (i - j)) H
theorem in_add : InOp X .Add rAdd := by
  rintro pins s σ H x y u v Q I rx ry ⟨i, j, rfl, rfl, q⟩
  obtain ⟨t, rfl⟩ := (show ∃ t, u = Value.int i t from rx)
  obtain ⟨t', rfl⟩ := (show ∃ t', v = Value.int j t' from ry)
  exact PyProof.Rows.iadd_int ⟨.int (i + j), H, I.tok _, ⟨_, rfl⟩, q⟩
theorem in_sub : InOp X .Sub rSub := by
  rintro pins s σ H x y u v Q I rx ry ⟨i, j, rfl, rfl, q⟩
  obtain ⟨t, rfl⟩ := (show ∃ t, u = Value.int i t from rx)
  obtain ⟨t', rfl⟩ := (show ∃ t', v = Value.int j t' from ry)
  exact PyProof.Rows.isub_int ⟨.int (i - j), H, I.tok _, ⟨_, rfl⟩, q⟩

/-- what is between an instance and its method: the tree of a method call -/
theorem methcall_of {pl : Sem Bool} {m : Str} {apos : Pos} {args : List Expr} {pins : List (Addr × Obj)} {s : Shared} {σ : St} {H : Hp} {Q : Value → Shared → Prop} {te : TE} (he : PE X e te) (I : Inv X pins σ H s)
    (h : te σ H fun x H1 => ∃ a C dx fs g, x = .ref a ∧ H1 a = some (.ins C dx fs) ∧ Cls X.K C ∧ Meth X.K C m g ∧ fs.lookup m = none ∧
      ∀ s1, Inv X pins σ H1 s1 → wpAny (model X.prog X.w) X.A (callWith pos (.ref g) [.ref a] (backTo pos (starEach args X.env)) (backToKw pos (keywordEach [] X.env))) Q X.xe s1)
    (ht : eval (.Call (.Attribute e m apos) args [] pos) X.env = (do
      let ov ← eval e X.env
      standAt apos.atName
      let (f, first) ← holding [ov] (getMethod ov m pl)
      callWith pos f first (backTo pos (starEach args X.env)) (backToKw pos (keywordEach [] X.env)))) :
    wpAny (model X.prog X.w) X.A (eval (.Call (.Attribute e m apos) args [] pos) X.env) Q X.xe s := by
  refine PySem.W.methodCall_KW (pl := pl) (thn (he pins s σ H _ I h) fun u s1 ⟨x, H1, I1, rx, a, C, dx, fs, g, ex, ea, c, k, l, q⟩ => ?_) ht
  subst ex
  obtain rfl : u = Value.ref a := rx
  exact getmeth_ok I1 ea c k l (q s1 I1)
end

/-! ### isinstance -/
section
variable {X : Cx} {pins : List (Addr × Obj)} {σ : St} {H : Hp} {s : Shared} {A : Around} {E : Value → Shared → Prop} {Q : Value → Shared → Prop} {c : Value} {b : Bool}
end
end L2

namespace L2
open PySem PySem.Spec PyProof.Rows

/-! ### room -/
structure Room (k : Nat) (A : Around) : Prop where
  hd : A.handled = none
  dp : A.depth + 3 * k + 5 < recursionLimit
  un : A.units + 16 * k + 200 < cLine
theorem Room.mono {j k : Nat} {A : Around} (r : Room k A) (h : j ≤ k) : Room j A := ⟨r.hd, by have := r.dp; omega, by have := r.un; omega⟩
theorem Room.deeper {k : Nat} {A : Around} (r : Room (k + 1) A) (env : Env) : Room k (A.deeper env) :=
  ⟨r.hd, by have := r.dp; show A.depth + 1 + 3 * k + 5 < _; omega, by have := r.un; show A.units + 3 + 16 * k + 200 < _; omega⟩
theorem make_depth {A : Around} {C : Addr} {us : List Value} {kw : List (Str × Value)} : (A.under (.builtin "type.__call__" ⟨.ref C :: us, kw⟩)).depth = A.depth + 1 := by
  first | rfl | simp [Around.under, Code.weight, Code.isCreation, Code.isGuard, Code.isCaller, Code.frames, Code.isFrame, guardIds]
theorem make_units {A : Around} {C : Addr} {us : List Value} {kw : List (Str × Value)} : (A.under (.builtin "type.__call__" ⟨.ref C :: us, kw⟩)).units = A.units + 1 := by
  first | rfl | simp [Around.under, Code.cUnits, Code.frames, Code.isFrame]
theorem Room.make {k : Nat} {A : Around} (r : Room (k + 1) A) (C : Addr) (us : List Value) (kw : List (Str × Value)) : Room k (A.under (.builtin "type.__call__" ⟨.ref C :: us, kw⟩)) :=
  ⟨r.hd, by have := r.dp; rw [make_depth]; omega, by have := r.un; rw [make_units]; omega⟩
theorem Room.depth {k : Nat} {A : Around} (r : Room k A) : A.depth < recursionLimit := by have := r.dp; omega
theorem Room.units {k : Nat} {A : Around} (r : Room k A) : A.units + 64 < cLine := by have := r.un; omega

/-! ### argument lists and displays -/
noncomputable def tNil : TA := fun _ H Q => Q [] H
noncomputable def tCons (ta : TE) (tr : TA) : TA := fun σ H Q => ta σ H fun x H1 => tr σ H1 fun xs H2 => Q (x :: xs) H2
section
variable {X : Cx} {e : Expr} {es : List Expr} {te : TE} {t : TA} {pos : Pos}
theorem pa_nil : PA X [] tNil := fun _ _ _ _ H Q I h => Calls.spliced_nil ⟨[], H, I, .nil, h⟩
theorem pa_cons (ha : PE X e te) (hr : PA X es t) (hs : starEach (e :: es) X.env = (false, eval e X.env) :: starEach es X.env := by rfl) : PA X (e :: es) (tCons te t) := by
  intro pos pins s σ H Q I h
  rw [hs]
  show wpAny _ _ (spliced ((false, eval e X.env) :: backTo pos (starEach es X.env))) _ _ s
  refine Calls.spliced_cons (thn (ha pins s σ H _ I h) fun u s1 ⟨x, H1, I1, r1, q1⟩ => ?_)
  exact thn (hr pos pins s1 σ H1 _ I1 q1) fun us s2 ⟨xs, H2, I2, r2, q2⟩ => ⟨x :: xs, H2, I2, .cons r1 r2, q2⟩

/-- a tuple, a list of written items -/
noncomputable def tTup (t : TA) : TE := fun σ H Q => t σ H fun xs H1 => xs.length ≤ sizeLine ∧ ∀ p, H1 p = none → Q (.ref p) (upd H1 p (.tup xs))
noncomputable def tLst (t : TA) : TE := fun σ H Q => t σ H fun xs H1 => xs.length ≤ sizeLine ∧ ∀ p, H1 p = none → Q (.ref p) (upd H1 p (.lst xs))
theorem pe_tup {x1} (h : PA X es t) : PE X (.Tuple es x1 pos) (tTup t) := by
  intro pins s σ H Q I hq
  refine wpAny_Tuple_spliced (thn (h pos pins s σ H _ I hq) fun us s1 ⟨xs, H1, I1, r, z, q⟩ => ⟨by rw [← r.length]; exact z, ?_⟩)
  have hf : H1 s1.heap.objs.size = none := I1.hok.fresh (Nat.le_refl _)
  refine ⟨.ref s1.heap.objs.size, upd H1 s1.heap.objs.size (.tup xs), I1.laid (t' := s1.toks) (fun b u e => Heap.get?_push_of_some _ e) (Nat.le_refl _) ?_, rfl, q _ hf⟩
  exact ⟨z, us, r, ⟨_, Heap.get?_push_size _ rfl, rfl, _, rfl⟩⟩
theorem pe_lst (h : PA X es t) : PE X (.List es pos) (tLst t) := by
  intro pins s σ H Q I hq
  refine wpAny_List_spliced (thn (h pos pins s σ H _ I hq) fun us s1 ⟨xs, H1, I1, r, z, q⟩ => ⟨by rw [← r.length]; exact z, ?_⟩)
  have hf : H1 s1.heap.objs.size = none := I1.hok.fresh (Nat.le_refl _)
  refine ⟨.ref s1.heap.objs.size, upd H1 s1.heap.objs.size (.lst xs), I1.laid (t' := s1.toks) (fun b u e => Heap.get?_push_of_some _ e) (Nat.le_refl _) ?_, rfl, q _ hf⟩
  exact ⟨z, us, 0, r, Heap.get?_push_size _ rfl⟩
end

/-! ### what a def promises -/
/-- a def's promise: the bound arguments in the parameters' order, the heap, the wanted end, the wanted exception -/
noncomputable abbrev Sp := List V → Hp → VK → XK → Prop
/-- how an exception lies behind a call (file 08 gives it): the callers' frames, abstract heap and state ahead of the call, the wish, the exception, the state -/
noncomputable abbrev CXT := List Env → Hp → Shared → XK → Value → Shared → Prop

/-- the state at a call -/
structure Env0 (P : Program) (w : World) (K : PySem.W.Frag) (mg : Str → Option Value) (base : Heap) (A : Around) (outer : List Env) (s : Shared) (H : Hp) : Prop where
  frames : A.frames = some outer
  mod : Mod K mg base
  bs : ∀ b o, base.get? b = some o → s.heap.get? b = some o ∧ H b = none
  bsz : base.objs.size ≤ s.heap.objs.size
  funs : s.heap.FunFrames base outer
  frf : ∀ b ∈ frs outer, H b = none
  hok : HOk P w H s.heap
  bare : AllBare s.gens
/-- a call's end -/
noncomputable def CE (outer : List Env) (P : Program) (w : World) (H : Hp) (s : Shared) (Q : VK) (u : Value) (s' : Shared) : Prop :=
  ∃ v H', s'.os = s.os ∧ AllBare s'.gens ∧ Un (frs outer) [] H H' s.heap s'.heap ∧ HOk P w H' s'.heap ∧ RelV v u ∧ Q v H'
noncomputable def CR (CX : CXT) (outer : List Env) (P : Program) (w : World) (H : Hp) (s : Shared) (Q : VK) (E : XK) (r : Result) (s' : Shared) : Prop :=
  match r with
  | .ok (.ret u) => CE outer P w H s Q u s'
  | .ok _ => False
  | .error e => CX outer H s E e s'
structure FnOk (P : Program) (w : World) (K : PySem.W.Frag) (mg : Str → Option Value) (base : Heap) (CX : CXT) (k : Nat) (f : Addr) (fd : FuncData) (ps : List Str) (sp : Sp) : Prop where
  len : ∀ vs H Q E, sp vs H Q E → vs.length = ps.length
  run : ∀ (A : Around) (outer : List Env) (s : Shared) (H : Hp) (args : Args) (us : List Value) (vs : List V) (Q : VK) (E : XK), Room k A → Env0 P w K mg base A outer s H → BindsTo s fd args (ps.zip us) → Vals vs us → sp vs H Q E →
    codeAny (model P w) A (.call (.ref f) args) (CR CX outer P w H s Q E) s
/-- a weaker promise -/
theorem FnOk.imp {P : Program} {w : World} {K : PySem.W.Frag} {mg : Str → Option Value} {base : Heap} {CX : CXT} {k : Nat} {f : Addr} {fd : FuncData} {ps : List Str} {sp sp' : Sp} (F : FnOk P w K mg base CX k f fd ps sp)
    (h : ∀ vs H Q E, sp' vs H Q E → sp vs H Q E) : FnOk P w K mg base CX k f fd ps sp' :=
  ⟨fun vs H Q E q => F.len vs H Q E (h _ _ _ _ q), fun A outer s H args us vs Q E hr he hb hv hs => F.run A outer s H args us vs Q E hr he hb hv (h _ _ _ _ hs)⟩

theorem Env0.make {P : Program} {w : World} {K : PySem.W.Frag} {mg : Str → Option Value} {base : Heap} {A : Around} {outer : List Env} {s : Shared} {H : Hp} (e : Env0 P w K mg base A outer s H) (C : Addr) (us : List Value) (kw : List (Str × Value)) :
    Env0 P w K mg base (A.under (.builtin "type.__call__" ⟨.ref C :: us, kw⟩)) outer s H := ⟨by first | exact e.frames | (simpa [Around.under, Code.envs, Code.isFrame, pushEnvs] using e.frames), e.mod, e.bs, e.bsz, e.funs, e.frf, e.hok, e.bare⟩

section
variable {X : Cx} {pins : List (Addr × Obj)} {σ : St} {H : Hp} {s s' : Shared}
/-- from a body: what a callee wants -/
theorem Inv.env0 (I : Inv X pins σ H s) : Env0 X.prog X.w X.K X.mg X.base X.A X.stack s H :=
  ⟨I.ok.frames, I.ok.mod, I.bs, Nat.le_trans I.ok.bsz I.sz, I.stack, I.stkFree, I.hok, I.bare⟩
/-- behind a call -/
theorem Inv.after {Q : VK} {u : Value} (I : Inv X pins σ H s) (h : CE X.stack X.prog X.w H s Q u s') : EP X pins σ Q u s' := by
  obtain ⟨v, H', os, bare, un, hok, r, q⟩ := h
  obtain ⟨hh, g, d, t, os'⟩ := s'
  obtain rfl : os' = s.os := os
  exact ⟨v, H', I.call (h' := hh) (g' := g) (d' := d) (t' := t) (ch := []) un hok bare (fun b z => absurd z (by simp)), r, q⟩
end

/-! ### calls -/
/-- f(..): the written arguments, then the defaults dvs; E: what is wanted of an exception -/
noncomputable def tCall (sp : Sp) (dvs : List V) (E : XK) (t : TA) : TE := fun σ H Q => t σ H fun vs H1 => sp (vs ++ dvs) H1 Q E
/-- o.m(..) of an instance of the class at C -/
noncomputable def tMeth (C : Addr) (m : Str) (sp : Sp) (dvs : List V) (E : XK) (ta : TE) (t : TA) : TE := fun σ H Q => ta σ H fun x H1 => ∃ a dx fs, x = .ref a ∧ H1 a = some (.ins C dx fs) ∧ fs.lookup m = none ∧
  t σ H1 fun vs H2 => sp (x :: (vs ++ dvs)) H2 Q E
/-- C(..): a new instance and its dict, then __init__ -/
noncomputable def tMake (C : Addr) (sp : Sp) (dvs : List V) (E : XK) (t : TA) : TE := fun σ H Q => t σ H fun vs H1 => ∀ x dx, H1 x = none → H1 dx = none → dx ≠ x →
  sp (.ref x :: (vs ++ dvs)) (upd (upd H1 dx (.own x)) x (.ins C dx [])) (fun v H2 => v = .non ∧ Q (.ref x) H2) E

/-- how the parameters are bound: us the positional arguments, kw the keywords' values by name, ds the defaults that fill up -/
noncomputable def Binds (K : PySem.W.Frag) (fd : FuncData) (ps : List Str) (ds : List Value) : Prop :=
  ∀ (s : Shared) (us : List Value), K.In s.heap → (us ++ ds).length = ps.length → BindsTo s fd ⟨us, []⟩ (ps.zip (us ++ ds))
/-- every parameter is given -/
theorem Binds.all {K : PySem.W.Frag} {fd : FuncData} {ps : List Str} (h : ∀ us : List Value, us.length = ps.length → bindArgs fd ⟨us, []⟩ = pure (ps.zip us)) : Binds K fd ps [] := fun s us _ hl => by
  rw [List.append_nil] at hl ⊢
  exact .of_eq (h us hl)

/-- an exception of a callee reaches what this body wants of exceptions -/
noncomputable def Passes (CX : CXT) (X : Cx) (E : XK) : Prop := ∀ (pins : List (Addr × Obj)) (σ : St) (H : Hp) (s : Shared) (e : Value) (s' : Shared), Inv X pins σ H s → CX X.stack H s E e s' → X.xe e s'

section
variable {X : Cx} {CX : CXT} {k : Nat} {f C : Addr} {fd : FuncData} {ps : List Str} {sp : Sp} {dvs : List V} {ds : List Value} {E : XK} {x m : Str} {p pos apos : Pos} {e o : Expr} {es : List Expr} {ta : TE} {t : TA}

/-- the callee runs -/
theorem run_fn {pins : List (Addr × Obj)} {σ : St} {H : Hp} {s : Shared} {Q : VK} {us : List Value} {vs : List V} (F : FnOk X.prog X.w X.K X.mg X.base CX k f fd ps sp) (hr : Room k X.A) (hb : Binds X.K fd ps ds) (hd : Vals dvs ds) (hx : Passes CX X E)
    (I : Inv X pins σ H s) (r : Vals vs us) (h : sp (vs ++ dvs) H Q E) : wpAny (model X.prog X.w) X.A (call (.ref f) us) (EP X pins σ Q) X.xe s := by
  have r2 : Vals (vs ++ dvs) (us ++ ds) := r.append hd
  have hl : (us ++ ds).length = ps.length := by rw [← r2.length]; exact F.len _ _ _ _ h
  refine wpAny_call (codeAny_mono (F.run X.A X.stack s H ⟨us, []⟩ (us ++ ds) (vs ++ dvs) Q E hr I.env0 (hb s us I.kIn hl) r2 h) fun r s' hq => ?_)
  cases r with
  | error e => exact hx pins σ H s e s' I hq
  | ok fl =>
    cases fl with
    | ret u => exact I.after hq
    | next => exact False.elim hq
    | brk => exact False.elim hq
    | cont => exact False.elim hq

theorem pe_call (F : FnOk X.prog X.w X.K X.mg X.base CX k f fd ps sp) (hr : Room k X.A) (hg : Gl X x) (hm : X.mg x = some (.ref f)) (hk : PySem.W.keepIn X.K (.ref f) = true) (hb : Binds X.K fd ps ds) (hd : Vals dvs ds) (hx : Passes CX X E)
    (ha : PA X (e :: es) t) (hdb : (x == ("__debug__" : Str)) = false := by decide) (he : starEach (e :: es) X.env = (false, eval e X.env) :: starEach es X.env := by rfl) (hpl : (backTo pos (starEach es X.env)).any (·.1) = false := by rfl) :
    PE X (.Call (.Name x p) (e :: es) [] pos) (tCall sp dvs E t) := by
  intro pins s σ H Q I h
  refine wpAny_Call_Name_kw (ld_glob I hg hm ?_ hdb)
  refine PySem.W.callWith_K (h₀ := X.base) I.ok.mod.kin hk (thn (ha pos pins s σ H _ I h) fun us s1 ⟨vs, H1, I1, r, q⟩ => ⟨I1.kIn, ?_⟩) he hpl
  exact run_fn F hr hb hd hx I1 r q

/-- o.m(e, ..) -/
theorem pe_meth {pl : Sem Bool} (he : PE X o ta) (c : Cls X.K C) (hm : Meth X.K C m f) (F : FnOk X.prog X.w X.K X.mg X.base CX k f fd ps sp) (hr : Room k X.A) (hb : Binds X.K fd ps ds) (hd : Vals dvs ds) (hx : Passes CX X E) (ha : PA X (e :: es) t)
    (hst : starEach (e :: es) X.env = (false, eval e X.env) :: starEach es X.env := by rfl) (hpl : (backTo pos (starEach es X.env)).any (·.1) = false := by rfl)
    (ht : eval (.Call (.Attribute o m apos) (e :: es) [] pos) X.env = (do
      let ov ← eval o X.env
      standAt apos.atName
      let (f, first) ← holding [ov] (getMethod ov m pl)
      callWith pos f first (backTo pos (starEach (e :: es) X.env)) (backToKw pos (keywordEach [] X.env))) := by rfl) :
    PE X (.Call (.Attribute o m apos) (e :: es) [] pos) (tMeth C m sp dvs E ta t) := by
  intro pins s σ H Q I h
  refine PySem.W.methodCall_KW (pl := pl) (thn (he pins s σ H _ I h) fun u s1 ⟨x, H1, I1, rx, a, dx, fs, ex, ea, l, q⟩ => ?_) ht
  subst ex
  obtain rfl : u = Value.ref a := rx
  refine getmeth_ok I1 ea c hm l ?_
  refine PySem.W.callWith_K (first := [.ref a]) (h₀ := X.base) I.ok.mod.kin hm.kp (thn (ha pos pins s1 σ H1 _ I1 q) fun us s2 ⟨vs, H2, I2, r, q2⟩ => ⟨I2.kIn, ?_⟩) hst hpl
  exact run_fn (us := .ref a :: us) (vs := .ref a :: vs) F hr hb hd hx I2 (.cons rfl r) q2
/-- o.m() -/
theorem pe_meth0 {pl : Sem Bool} (he : PE X o ta) (c : Cls X.K C) (hm : Meth X.K C m f) (F : FnOk X.prog X.w X.K X.mg X.base CX k f fd ps sp) (hr : Room k X.A) (hb : Binds X.K fd ps ds) (hd : Vals dvs ds) (hx : Passes CX X E)
    (ht : eval (.Call (.Attribute o m apos) [] [] pos) X.env = (do
      let ov ← eval o X.env
      standAt apos.atName
      let (f, first) ← holding [ov] (getMethod ov m pl)
      callWith pos f first (backTo pos (starEach [] X.env)) (backToKw pos (keywordEach [] X.env))) := by rfl) :
    PE X (.Call (.Attribute o m apos) [] [] pos) (tMeth C m sp dvs E ta tNil) := by
  intro pins s σ H Q I h
  refine PySem.W.methodCall_KW (pl := pl) (thn (he pins s σ H _ I h) fun u s1 ⟨x, H1, I1, rx, a, dx, fs, ex, ea, l, q⟩ => ?_) ht
  subst ex
  obtain rfl : u = Value.ref a := rx
  refine getmeth_ok I1 ea c hm l ?_
  exact PySem.W.callWith_K0 (first := [.ref a]) I1.kIn hm.kp (run_fn (us := [.ref a]) (vs := [.ref a]) F hr hb hd hx I1 (.cons rfl .nil) q)

/-- what a class must have to be made -/
structure Mk (K : PySem.W.Frag) (C f : Addr) : Prop where
  makes : PySem.W.makesIn K C = true
  init : PySem.W.findIn K (.ref C) "__init__" = some (some (.ref f))
  fn : PySem.W.isFn K (.ref f) = true
  kp : PySem.W.keepIn K (.ref C) = true

theorem run_make {pins : List (Addr × Obj)} {σ : St} {H : Hp} {s : Shared} {Q : VK} {us : List Value} {vs : List V} (M : Mk X.K C f) (F : FnOk X.prog X.w X.K X.mg X.base CX k f fd ps sp) (hr : Room (k + 1) X.A) (hb : Binds X.K fd ps ds) (hd : Vals dvs ds)
    (hx : Passes CX X E) (I : Inv X pins σ H s) (r : Vals vs us)
    (h : ∀ x dx, H x = none → H dx = none → dx ≠ x → sp (.ref x :: (vs ++ dvs)) (upd (upd H dx (.own x)) x (.ins C dx [])) (fun v H2 => v = .non ∧ Q (.ref x) H2) E) :
    wpAny (model X.prog X.w) X.A (call (.ref C) us) (EP X pins σ Q) X.xe s := by
  have hq := h (s.heap.objs.size + 1) s.heap.objs.size (I.hok.fresh (Nat.le_succ _)) (I.hok.fresh (Nat.le_refl _)) (Nat.ne_of_lt (Nat.lt_succ_self _))
  have I2 := Inv.made (C := C) I
  have r2 : Vals (V.ref (s.heap.objs.size + 1) :: (vs ++ dvs)) (Value.ref (s.heap.objs.size + 1) :: (us ++ ds)) := .cons rfl (r.append hd)
  have hl : (Value.ref (s.heap.objs.size + 1) :: us ++ ds).length = ps.length := by
    have e := r2.length
    rw [F.len _ _ _ _ hq] at e
    exact e.symm
  refine wpAny_call (make_map (f := f) I.kIn M.makes M.init (beq_iff_eq.mp M.fn) (codeAny_mono (F.run _ X.stack _ _ ⟨Value.ref (s.heap.objs.size + 1) :: us, []⟩ (Value.ref (s.heap.objs.size + 1) :: (us ++ ds)) _ _ E (hr.make C us [])
    (I2.env0.make C us []) (hb _ (Value.ref (s.heap.objs.size + 1) :: us) I2.kIn hl) r2 hq) fun r s' hq' => ?_))
  cases r with
  | error e => exact hx pins σ _ _ e s' I2 hq'
  | ok fl =>
    cases fl with
    | ret u =>
      obtain ⟨v, H', I3, rv, ev, q3⟩ := I2.after hq'
      subst ev
      exact ⟨rv, ⟨V.ref (s.heap.objs.size + 1), H', I3, rfl, q3⟩⟩
    | next => exact False.elim hq'
    | brk => exact False.elim hq'
    | cont => exact False.elim hq'
theorem pe_make (M : Mk X.K C f) (F : FnOk X.prog X.w X.K X.mg X.base CX k f fd ps sp) (hr : Room (k + 1) X.A) (hg : Gl X x) (hm : X.mg x = some (.ref C)) (hb : Binds X.K fd ps ds) (hd : Vals dvs ds) (hx : Passes CX X E)
    (ha : PA X (e :: es) t) (hdb : (x == ("__debug__" : Str)) = false := by decide) (he : starEach (e :: es) X.env = (false, eval e X.env) :: starEach es X.env := by rfl) (hpl : (backTo pos (starEach es X.env)).any (·.1) = false := by rfl) :
    PE X (.Call (.Name x p) (e :: es) [] pos) (tMake C sp dvs E t) := by
  intro pins s σ H Q I h
  refine wpAny_Call_Name_kw (ld_glob I hg hm ?_ hdb)
  refine PySem.W.callWith_K (h₀ := X.base) I.ok.mod.kin M.kp (thn (ha pos pins s σ H _ I h) fun us s1 ⟨vs, H1, I1, r, q⟩ => ⟨I1.kIn, ?_⟩) he hpl
  exact run_make M F hr hb hd hx I1 r q
end

/-! ### keywords -/
section
variable {X : Cx} {CX : CXT} {k : Nat} {f C : Addr} {fd : FuncData} {ps ks : List Str} {sp : Sp} {E : XK} {x m : Str} {p pos apos kpos : Pos} {e o : Expr} {es : List Expr} {kws : List Keyword} {te ta : TE} {t tk : TA} {nm : Option Str}

variable {g : List Value → List Value → List Value} {gV : List V → List V → List V}
end

/-! ### a def's body keeps its promise -/
/-- names: the parameters first -/
structure FnScope (N P : List Str) (sc : Scope) : Prop where
  kind : sc.kind = .function
  co : sc.isCoroutine = false
  gen : sc.isGenerator = false
  nd : N.Nodup
  pre : N.take P.length = P
  par : ∀ x ∈ P, sc.names.lookup x = some .local ∨ sc.names.lookup x = some .cell
  nofree : ∀ y ∈ sc.names, y.2 ≠ .free

theorem bindL_out {kindOf : Str → Option NameKind} {x : Str} : ∀ {binds : List (Str × Value)} {m : Str → Option Value}, (∀ v, (x, v) ∉ binds) → bindL kindOf binds m x = m x
  | [], _, _ => rfl
  | (n, v) :: r, m, h => by
    unfold bindL
    rw [bindL_out fun w hw => h w (List.mem_cons_of_mem _ hw)]
    split
    · have : x ≠ n := by rintro rfl; exact h v List.mem_cons_self
      simp [this]
    · rfl
theorem bindC_out {kindOf : Str → Option NameKind} {x : Str} : ∀ {binds : List (Str × Value)} {m : Str → Option Value}, (∀ v, (x, v) ∉ binds) → bindC kindOf binds m x = m x
  | [], _, _ => rfl
  | (n, v) :: r, m, h => by
    unfold bindC
    rw [bindC_out fun w hw => h w (List.mem_cons_of_mem _ hw)]
    split
    · rfl
    · have : x ≠ n := by rintro rfl; exact h v List.mem_cons_self
      simp [this]
theorem bindL_get {kindOf : Str → Option NameKind} {x : Str} {v : Value} : ∀ {P : List Str} {vs : List Value} {i : Nat} {m : Str → Option Value}, P.Nodup → P[i]? = some x → vs[i]? = some v → kindOf x = some .local →
    bindL kindOf (P.zip vs) m x = some v
  | [], _, _, _, _, h, _, _ => by simp at h
  | _ :: _, [], _, _, _, _, h, _ => by simp at h
  | p :: P, w :: vs, 0, m, nd, h1, h2, hk => by
    simp at h1 h2; subst h1; subst h2
    show bindL kindOf ((p, w) :: P.zip vs) m p = _
    unfold bindL
    rw [bindL_out fun v hv => (List.nodup_cons.mp nd).1 (List.of_mem_zip hv).1, if_pos hk]
    simp
  | p :: P, w :: vs, i + 1, m, nd, h1, h2, hk => by
    show bindL kindOf ((p, w) :: P.zip vs) m x = _
    unfold bindL
    exact bindL_get (i := i) (List.nodup_cons.mp nd).2 (by simpa using h1) (by simpa using h2) hk
theorem bindC_get {kindOf : Str → Option NameKind} {x : Str} {v : Value} : ∀ {P : List Str} {vs : List Value} {i : Nat} {m : Str → Option Value}, P.Nodup → P[i]? = some x → vs[i]? = some v → kindOf x ≠ some .local →
    bindC kindOf (P.zip vs) m x = some v
  | [], _, _, _, _, h, _, _ => by simp at h
  | _ :: _, [], _, _, _, _, h, _ => by simp at h
  | p :: P, w :: vs, 0, m, nd, h1, h2, hk => by
    simp at h1 h2; subst h1; subst h2
    show bindC kindOf ((p, w) :: P.zip vs) m p = _
    unfold bindC
    rw [bindC_out fun v hv => (List.nodup_cons.mp nd).1 (List.of_mem_zip hv).1, if_neg hk]
    simp
  | p :: P, w :: vs, i + 1, m, nd, h1, h2, hk => by
    show bindC kindOf ((p, w) :: P.zip vs) m x = _
    unfold bindC
    exact bindC_get (i := i) (List.nodup_cons.mp nd).2 (by simpa using h1) (by simpa using h2) hk

/-- the names' values at the entry -/
noncomputable def start (N : List Str) (vs : List V) : St := vs.map some ++ List.replicate (N.length - vs.length) none

/-- the context of a def's body, at its entry; an exception leaves the frame, then lies as CX says -/
noncomputable def cxOf (CX : CXT) (P : Program) (w : World) (K : PySem.W.Frag) (mg : Str → Option Value) (base : Heap) (N : List Str) (qual : Str) (scope : Scope) (f : Addr) (cd : Value) (A : Around) (outer : List Env) (s : Shared) (H : Hp) (E : XK) : Cx where
  prog := P
  w := w
  K := K
  mg := mg
  base := base
  A := A.deeper (envOfC qual scope s.heap.objs.size f cd)
  N := N
  s₀ := s
  H₀ := H
  env := envOfC qual scope s.heap.objs.size f cd
  outer := outer
  stack := envOfC qual scope s.heap.objs.size f cd :: outer
  ex := []
  calm := true
  fn := fun _ => true
  pn := []
  xe := fun e s' => wpAny (model P w) (A.deeper (envOfC qual scope s.heap.objs.size f cd)) (leaving (envOfC qual scope s.heap.objs.size f cd) e) (fun _ s'' => CX outer H s E e s'') (fun e' s'' => CX outer H s E e' s'') s'

theorem cell_has {sc : Scope} {n : Nat} {x : Str} (h : sc.names.lookup x = some .cell) : ∃ c, (cellsFrom n sc.names []).lookup x = some c := by
  have q := PySem.W.cellsFrom_some sc.names n [] (.inl h)
  exact Option.isSome_iff_exists.mp q

theorem inv_start {CX : CXT} {P : Program} {w : World} {K : PySem.W.Frag} {mg : Str → Option Value} {base : Heap} {N ps : List Str} {qual : Str} {scope : Scope} {f : Addr} {cd : Value} {A : Around} {outer : List Env} {s s1 : Shared} {H : Hp} {E : XK} {us : List Value} {vs : List V}
    (S : FnScope N ps scope) (hd : A.handled = none) (e0 : Env0 P w K mg base A outer s H) (hl : vs.length = ps.length) (r : Vals vs us)
    (x : InCallC s s.heap.objs.size (bindL (envOfC qual scope s.heap.objs.size f cd).kindOf (ps.zip us) fun _ => none) (cellsFrom (s.heap.objs.size + 1) scope.names []) (bindC (envOfC qual scope s.heap.objs.size f cd).kindOf (ps.zip us) fun _ => none) s1) :
    Inv (cxOf CX P w K mg base N qual scope f cd A outer s H E) [] (start N vs) H s1 := by
  have hpl : ps.length ≤ N.length := by have := congrArg List.length S.pre; rw [List.length_take] at this; omega
  obtain ⟨h1, tk, rfl, hk⟩ := x.done
  have noA : ∀ b : Addr, b ∉ (cxOf CX P w K mg base N qual scope f cd A outer s H E).ex := fun b z => absurd (show b ∈ ([] : List Addr) from z) (by simp)
  refine ⟨⟨e0.mod, S.kind, rfl, rfl, Nat.le_refl _, fun y z c h1 h2 => ?_, fun y hy => ?_, fun y c _ h => ?_, fun _ => hd, Around.frames_deeper e0.frames, .inr ⟨rfl, rfl⟩, fun b z => absurd z (noA b), e0.bs, e0.bsz, fun b _ _ => noA b, fun b z => absurd z (noA b), e0.funs, e0.frf⟩,
    rfl, e0.bare, Un.kept hk, ⟨_, x.toInCall.ns, fun i y v h1 h2 h3 => ?_⟩, fun y c h => ⟨_, x.cell y c h⟩, e0.hok.fresh (Nat.le_refl _), fun y c h => ?_, fun p hp => absurd (show p ∈ ([] : List (Addr × Obj)) from hp) (by simp), e0.hok.kept hk, ?_⟩
  · exact name_of_addr x.apart (PySem.mem_of_lookup h1) (PySem.mem_of_lookup h2)
  · have hy : scope.names.lookup y = some .cell ∨ scope.names.lookup y = some .free := hy
    rcases hy with hy | hy
    · exact cell_has hy
    · exact absurd rfl (S.nofree _ (PySem.mem_of_lookup hy))
  · exact Nat.le_of_lt (x.above y c (PySem.mem_of_lookup h))
  · have hi : i < vs.length := by
      unfold start at h2
      by_cases hi : i < vs.length
      · exact hi
      · rw [List.getElem?_append_right (by simpa using hi)] at h2
        rw [List.getElem?_replicate] at h2
        split at h2 <;> cases h2
    have ha : vs[i]? = some v := by
      unfold start at h2
      rw [List.getElem?_append_left (by simpa using hi), List.getElem?_map] at h2
      cases e : vs[i]? with
      | none => rw [e] at h2; cases h2
      | some a => rw [e] at h2; cases h2; rfl
    obtain ⟨u, hu, rv⟩ := r.get ha
    have hp : ps[i]? = some y := by
      rw [← S.pre, List.getElem?_take_of_lt (by omega)]; exact h1
    have ndP : ps.Nodup := by rw [← S.pre]; exact S.nd.sublist (List.take_sublist _ _)
    refine ⟨u, rv, ?_⟩
    rcases S.par y (List.mem_of_getElem? hp) with k | k
    · exact .inl ⟨k, bindL_get ndP hp hu k⟩
    · obtain ⟨c, e⟩ := cell_has (n := s.heap.objs.size + 1) k
      refine .inr ⟨.inl k, c, e, ?_⟩
      have q := x.cell y c e
      rw [bindC_get ndP hp hu (by show scope.names.lookup y ≠ _; rw [k]; decide)] at q
      exact q
  · exact e0.hok.fresh (Nat.le_of_lt (x.above y c (PySem.mem_of_lookup h)))
  · unfold start
    show _ = N.length
    rw [List.length_append, List.length_map, List.length_replicate]
    omega

/-- THE RULE: a def (or a method) of the text, by its body. The body's reading t is chosen for each entry; it is run at the parameters' values -/
theorem fn_of {CX : CXT} {P : Program} {w : World} {K : PySem.W.Frag} {mg : Str → Option Value} {base : Heap} {k : Nat} {f : Addr} {name qual : Str} {params : Arguments} {body : List Stmt} {scope : Scope} {dV kV doc pm cdv ct oc : Value} {an od : Option Addr}
    {osl : Array (Option Value)} {N ps : List Str} {sp : Sp} (lk : K.lookup f = some ⟨oc, od, .func (PySem.W.fnOf name qual params body scope dV kV doc pm an cdv ct), osl⟩) (hcd : PySem.W.codeIn K cdv qual = true) (S : FnScope N ps scope)
    (len : ∀ vs H Q E, sp vs H Q E → vs.length = ps.length)
    (hbody : ∀ (A : Around) (outer : List Env) (s : Shared) (H : Hp) (vs : List V) (Q : VK) (E : XK), Room k (A.deeper (envOfC qual scope s.heap.objs.size f cdv)) → sp vs H Q E →
      ∃ t, PSs (cxOf CX P w K mg base N qual scope f cdv A outer s H E) body t ∧ t { nx := fun _ H' => Q .non H', rt := Q } (start N vs) H) :
    FnOk P w K mg base CX (k + 1) f (PySem.W.fnOf name qual params body scope dV kV doc pm an cdv ct) ps sp := by
  refine ⟨len, fun A outer s H args us vs Q E hr e0 hb r hsp => ?_⟩
  have hl := len _ _ _ _ hsp
  have KX : K.In s.heap := e0.mod.kin.keeps fun b o e => (e0.bs b o e).1
  have lim : s.heap.NoLimit := e0.mod.nolimit.keeps fun b o e => (e0.bs b o e).1
  have hkind : ∀ y ∈ ps.zip us, scope.names.lookup y.1 = some .local ∨ (scope.names.lookup y.1 = some .cell ∧ ((cellsFrom (s.heap.objs.size + 1) scope.names []).lookup y.1).isSome = true) := fun ⟨n, v⟩ hy => by
    rcases S.par n (List.of_mem_zip hy).1 with q | q
    · exact .inl q
    · exact .inr ⟨q, PySem.W.cellsFrom_some _ _ _ (.inl q)⟩
  refine codeAny_call_function hr.depth (KX _ _ lk) rfl S.co S.gen rfl (PySem.W.codeRec_of KX hcd) (hb _ _ _ _ ?_)
  refine wpAny_newFunctionEnv_cells S.kind hkind fun env he s1 x => ?_
  subst he
  refine ⟨lim.keeps x.toInCall.keep, codeAny_func ?_⟩
  obtain ⟨t, ht, hq⟩ := hbody A outer s H vs Q E (hr.deeper _) hsp
  have I : Inv (cxOf CX P w K mg base N qual scope f cdv A outer s H E) [] (start N vs) H s1 := inv_start S hr.hd e0 hl r x
  refine wpAny_mono (ht [] s1 (start N vs) H _ I hq) (fun fl s' hs => ?_) fun e s' hs => hs
  have fin : ∀ {σ' : St} {H' : Hp} {v : V} {u : Value}, Inv (cxOf CX P w K mg base N qual scope f cdv A outer s H E) [] σ' H' s' → RelV v u → Q v H' → CE outer P w H s Q u s' :=
    fun {σ' H' v u} J rv q => ⟨v, H', J.os, J.bare, J.base, J.hok, rv, q⟩
  cases fl with
  | ret u =>
    obtain ⟨v, σ', H', J, rv, q⟩ := hs
    exact fin J rv q
  | next =>
    obtain ⟨σ', H', J, q⟩ := hs
    exact fin (v := V.non) (u := Value.none) J rfl q
  | brk =>
    obtain ⟨_, _, _, q⟩ := hs
    exact False.elim q
  | cont =>
    obtain ⟨_, _, _, q⟩ := hs
    exact False.elim q
end L2

namespace L2
open PySem PySem.Spec PyProof.Rows
section
variable {X : Cx} {x : Str} {p pos : Pos} {e : Expr} {es : List Expr} {t : TA} {id T : String} {r : List V → Hp → VK → Prop}

noncomputable def tCB (r : List V → Hp → VK → Prop) (t : TA) : TE := fun σ H Q => t σ H fun vs H1 => r vs H1 Q
/-- f(e, ..), f a built-in function -/
theorem pe_callB (hc : CallR X (.builtin id) r) (hg : Gl X x) (hm : X.mg x = none) (hv : bootBuiltins x = some (.builtin id)) (ha : PA X (e :: es) t) (hn : x ≠ "__name__" := by decide) (hdb : (x == ("__debug__" : Str)) = false := by decide)
    (he : starEach (e :: es) X.env = (false, eval e X.env) :: starEach es X.env := by rfl) (hpl : (backTo pos (starEach es X.env)).any (·.1) = false := by rfl) : PE X (.Call (.Name x p) (e :: es) [] pos) (tCB r t) := by
  intro pins s σ H Q I h
  refine wpAny_Call_Name_kw (ld_blt I hg hm hv ?_ hn hdb)
  exact PyProof.Rows.callWith_builtin1 (thn (ha pos pins s σ H _ I h) fun us s1 ⟨vs, H1, I1, r1, q1⟩ => hc pins s1 σ H1 vs us Q I1 r1 q1) he hpl
/-- T(e, ..), T a built-in type -/
theorem pe_callTy (hc : CallR X (.type T) r) (hg : Gl X x) (hm : X.mg x = none) (hv : bootBuiltins x = some (.type T)) (ha : PA X (e :: es) t) (hn : x ≠ "__name__" := by decide) (hdb : (x == ("__debug__" : Str)) = false := by decide)
    (he : starEach (e :: es) X.env = (false, eval e X.env) :: starEach es X.env := by rfl) (hpl : (backTo pos (starEach es X.env)).any (·.1) = false := by rfl) : PE X (.Call (.Name x p) (e :: es) [] pos) (tCB r t) := by
  intro pins s σ H Q I h
  refine wpAny_Call_Name_kw (ld_blt I hg hm hv ?_ hn hdb)
  exact PyProof.Rows.callWith_type1 (thn (ha pos pins s σ H _ I h) fun us s1 ⟨vs, H1, I1, r1, q1⟩ => hc pins s1 σ H1 vs us Q I1 r1 q1) he hpl
end
end L2

namespace L2
open PySem PySem.Spec PyProof.Rows

/-! ### lists of pairs as tables -/
section
variable {κ : Type} [DecidableEq κ]



end


/-! ### a tracked dict, its keys ints and texts or tuples of these -/


section
variable {P : Program} {w : World} {H : Hp} {h : Heap} {a : Addr}
end



section
variable {X : Cx} {pins : List (Addr × Obj)} {σ : St} {H : Hp} {s : Shared} {a : Addr} {y v : V} {u r : Value} {o : Option V} {A : Around} {E : Value → Shared → Prop}


end

section
variable {X : Cx} {pins : List (Addr × Obj)} {σ : St} {H : Hp} {s : Shared} {a : Addr} {kvs : List (Key × V)} {k : Key} {u : Value} {A : Around} {E : Value → Shared → Prop}
end


/-! ### readings and rules -/



section
variable {X : Cx} {o i e value : Expr} {pos pos' tpos : Pos} {td ty tv : TE}
end


/-! ### displays -/
section
variable {X : Cx} {pos : Pos}
end




/-! ### methods -/


section
variable {X : Cx} {pins : List (Addr × Obj)} {σ : St} {H : Hp} {s : Shared} {a : Addr} {y d : V} {u r : Value} {o : Option V} {A : Around} {E : Value → Shared → Prop}
end

section
variable {X : Cx} {o e f : Expr} {apos cpos : Pos} {td ty tx : TE}
end

/-! ### dict(d): a copy -/
section
variable {X : Cx} {pins : List (Addr × Obj)} {σ : St} {H : Hp} {s : Shared} {a : Addr} {kvs : List (Key × V)} {A : Around} {E : Value → Shared → Prop}
end


section
variable {X : Cx} {pins : List (Addr × Obj)} {σ : St} {H : Hp} {s : Shared} {a : Addr} {y : V} {u : Value} {A : Around} {E : Value → Shared → Prop}
end
end L2


namespace HT
open PySem PyProof.Rows



section
open PySem.SeqAt
open PySem.AutoSeq1 (wpAny_loadPart')
open PySem.MeetsSeq PySem.MeetsSeq2 PySem.MeetsSeq3

end

section
variable {prog : Program} {w : World} {A : Around} {E : Value → Shared → Prop} {s : Shared}



/-! ### t[a:b], not the whole -/
/-- a slice's bound as a place among n (d where it is left out) -/
noncomputable def sIx (n d : Nat) : Option Int → Nat
  | none => d
  | some v => if v < 0 then (v + (n : Int)).toNat else min v.toNat n

end
end HT

namespace L2
open PySem PySem.Spec PyProof.Rows

/-! ### the parts of a slice -/
noncomputable abbrev TO := St → Hp → (Option Int → Hp → Prop) → Prop
/-- a slice's part (left out, or an int) -/
noncomputable def PO (X : Cx) (e : Option Expr) (t : TO) : Prop :=
  ∀ (pins : List (Addr × Obj)) (s : Shared) (σ : St) (H : Hp) (Q : Option Int → Hp → Prop), Inv X pins σ H s → t σ H Q →
    wpAny (model X.prog X.w) X.A (evalPart e X.env) (fun u s' => ∃ o H', Inv X pins σ H' s' ∧ IsPart u o ∧ Q o H') X.xe s
noncomputable def tNoPart : TO := fun _ H Q => Q none H
noncomputable def tPart (t : TE) : TO := fun σ H Q => t σ H fun x H1 => ∃ i, x = .int i ∧ Q (some i) H1


section
variable {X : Cx} {e : Expr} {te : TE} {lo hi : Option Expr} {tl th : TO} {pos p2 : Pos}

theorem po_none : PO X none tNoPart := by
  intro pins s σ H Q I h
  rw [evalPart_none]
  exact wpAny_pure ⟨none, H, I, .none, h⟩
theorem po_some (h : PE X e te) : PO X (some e) (tPart te) := by
  intro pins s σ H Q I hw
  rw [evalPart_some]
  refine thn (h pins s σ H _ I hw) fun u s1 ⟨x, H1, I1, r1, q1⟩ => ?_
  obtain ⟨i, rfl, q⟩ := q1
  obtain ⟨t, rfl⟩ := r1
  exact ⟨some i, H1, I1, .int i t, q⟩

/-- what a slice of a value is, by values: the slice object stands at sl -/
noncomputable def SlR (X : Cx) (r : V → Option Int → Option Int → Hp → VK → Prop) : Prop :=
  ∀ (pins : List (Addr × Obj)) (s : Shared) (σ : St) (H : Hp) (x : V) (v vl vu : Value) (lo hi : Option Int) (sl : Addr) (Q : VK), Inv X pins σ H s → RelV x v → s.heap.IsSliceOf sl vl vu .none → IsPart vl lo → IsPart vu hi → r x lo hi H Q →
    ∃ T id, typeLookup (.type T) "__getitem__" = pure (some (.builtin id)) ∧ s.TypeIs v T ∧ wpAny (model X.prog X.w) X.A (getItem v (.ref sl)) (EP X pins σ Q) X.xe s
noncomputable def tSl (r : V → Option Int → Option Int → Hp → VK → Prop) (te : TE) (tl th : TO) : TE := fun σ H Q => te σ H fun x H1 => tl σ H1 fun l H2 => th σ H2 fun u H3 => r x l u H3 Q
/-- a[lo:hi], any a -/
theorem pe_slice {r : V → Option Int → Option Int → Hp → VK → Prop} (hr : SlR X r) (he : PE X e te) (hl : PO X lo tl) (hu : PO X hi th) : PE X (.Subscript e (.Slice lo hi none p2) pos) (tSl r te tl th) := by
  intro pins s σ H Q I h
  refine Subscript_ (thn (he pins s σ H _ I h) fun v s1 ⟨x, H1, I1, r1, q1⟩ => ?_)
  refine wpAny_Slice (thn (hl pins s1 σ H1 _ I1 q1) fun vl s2 ⟨l, H2, I2, pl, q2⟩ => thn (hu pins s2 σ H2 _ I2 q2) fun vu s3 ⟨u, H3, I3, pu, q3⟩ => ?_)
  rw [evalPart_none]
  refine wpAny_pure ?_
  have I4 : Inv X pins σ H3 { s3 with heap := s3.heap.push { cls := .type "slice", data := .fields #[vl, vu, .none] } } := I3.kept (t' := s3.toks) fun b ob q => Heap.get?_push_of_some _ q
  obtain ⟨T, id, hT, ht, hg⟩ := hr pins { s3 with heap := s3.heap.push { cls := .type "slice", data := .fields #[vl, vu, .none] } } σ H3 x v vl vu l u s3.heap.objs.size Q I4 r1 (Heap.IsSliceOf.new ..) pl pu q3
  show wpAny (model X.prog X.w) X.A (subscriptTail e (.Slice lo hi none p2) v (.ref s3.heap.objs.size)) (EP X pins σ Q) X.xe { s3 with heap := s3.heap.push { cls := .type "slice", data := .fields #[vl, vu, .none] } }
  exact tail_any (ops := [.ref s3.heap.objs.size, v]) ht hT hg (by with_unfolding_all rfl)

/-- the items of xs[lo:hi] -/
noncomputable def cutV (xs : List V) (lo hi : Option Int) : List V := (xs.drop (HT.sIx xs.length 0 lo)).take (HT.sIx xs.length xs.length hi - HT.sIx xs.length 0 lo)
theorem cutV_length (xs : List V) (lo hi : Option Int) : (cutV xs lo hi).length ≤ xs.length := by
  unfold cutV
  rw [List.length_take, List.length_drop]
  omega

/-! ### t < u, t + u -/
end
end L2

namespace L2
open PySem PySem.Spec PyProof.Rows

/-! ### places -/
/-- the place that an index of any sign means -/
noncomputable def ixN (n : Nat) (i : Int) : Option Nat := if 0 ≤ i then (if i < n then some i.toNat else none) else if -(n : Int) ≤ i then some (i + n).toNat else none
noncomputable def atI {α : Type} (xs : List α) (i : Int) : Option α := (ixN xs.length i).bind fun j => xs[j]?
theorem ixN_seq {n : Nat} {i : Int} {j : Nat} (h : ixN n i = some j) : seqIndex? i n = some j ∧ j < n ∧ -(n : Int) ≤ i ∧ i < n := by
  unfold ixN at h
  by_cases h0 : 0 ≤ i
  · rw [if_pos h0] at h
    by_cases h1 : i < n
    · rw [if_pos h1] at h
      have e : i.toNat = j := Option.some.inj h
      exact ⟨by rw [seqIndex_of h0 h1, e], by omega, by omega, h1⟩
    · rw [if_neg h1] at h; cases h
  · rw [if_neg h0] at h
    by_cases h1 : -(n : Int) ≤ i
    · rw [if_pos h1] at h
      have e : (i + n).toNat = j := Option.some.inj h
      exact ⟨by rw [seqIndex_neg (by omega) h1, e], by omega, h1, by omega⟩
    · rw [if_neg h1] at h; cases h
theorem atI_get {α : Type} {xs : List α} {i : Int} {v : α} (h : atI xs i = some v) : ∃ j, seqIndex? i xs.length = some j ∧ xs[j]? = some v ∧ j < xs.length ∧ -(xs.length : Int) ≤ i ∧ i < xs.length := by
  unfold atI at h
  cases e : ixN xs.length i with
  | none => rw [e] at h; cases h
  | some j =>
    rw [e] at h
    obtain ⟨h1, h2, h3, h4⟩ := ixN_seq e
    exact ⟨j, h1, h, h2, h3, h4⟩
theorem atI_nat {α : Type} {xs : List α} {j : Nat} {v : α} (h : xs[j]? = some v) : atI xs (j : Int) = some v := by
  have hj : j < xs.length := (List.getElem?_eq_some_iff.mp h).1
  have e : ixN xs.length (j : Int) = some j := by
    unfold ixN
    rw [if_pos (by omega), if_pos (by omega)]; simp
  unfold atI; rw [e]; exact h
theorem atI_last {α : Type} (xs : List α) (v : α) : atI (xs ++ [v]) (-1) = some v := by
  have hl : (xs ++ [v]).length = xs.length + 1 := by simp
  have e : ixN (xs ++ [v]).length (-1) = some xs.length := by
    unfold ixN
    rw [hl, if_neg (by decide), if_pos (by omega)]
    congr 1
    omega
  unfold atI
  rw [e]
  show (xs ++ [v])[xs.length]? = some v
  simp

/-! ### what may be subscripted -/
/-- what stands as an index of a plain subscript -/
noncomputable def PlainIx (b : Expr) : Prop := ∀ o i, subscripted b false o i = operate [o, i] (getItem o i)
/-- a subscript by values -/
noncomputable def IxR (X : Cx) (r : R2) : Prop :=
  ∀ (value slice : Expr) (pins : List (Addr × Obj)) (s : Shared) (σ : St) (H : Hp) (x y : V) (v u : Value) (Q : VK), Inv X pins σ H s → RelV x v → RelV y u → r x y H Q →
    subscripted slice false v u = operate [v, u] (getItem v u) → wpAny (model X.prog X.w) X.A (subscriptTail value slice v u) (EP X pins σ Q) X.xe s
/-- a call of a builtin's method by values: the receiver, the arguments -/
noncomputable def MtR (X : Cx) (id : String) (r : V → List V → Hp → VK → Prop) : Prop :=
  ∀ (pins : List (Addr × Obj)) (s : Shared) (σ : St) (H : Hp) (x : V) (xs : List V) (v : Value) (us : List Value) (Q : VK), Inv X pins σ H s → RelV x v → Vals xs us → r x xs H Q →
    wpAny (model X.prog X.w) X.A (call (.builtin id) (v :: us)) (EP X pins σ Q) X.xe s
section
variable {X : Cx} {a b : Expr} {ta tb : TE} {pos : Pos}
/-- a[b] -/
theorem pe_ix {r : R2} (hr : IxR X r) (ha : PE X a ta) (hb : PE X b tb) (hs : PlainIx b) : PE X (.Subscript a b pos) (tOp r ta tb) := by
  intro pins s σ H Q I h
  exact Subscript_ (binT ha hb I h fun v u s2 x y H2 I2 rx ry q => hr a b pins s2 σ H2 x y v u Q I2 rx ry q (hs _ _))

noncomputable def rIxL (K : PySem.W.Frag) : R2 := fun x y H Q => ∃ p xs i v, x = .ref p ∧ y = .int i ∧ SqL K H p xs ∧ atI xs i = some v ∧ Q v H
noncomputable def rIxT (K : PySem.W.Frag) : R2 := fun x y H Q => ∃ p xs i v, x = .ref p ∧ y = .int i ∧ SqT K H p xs ∧ atI xs i = some v ∧ Q v H
noncomputable def rIxS : R2 := fun x y H Q => ∃ z i c, x = .str z ∧ y = .int i ∧ z.length ≤ sizeLine ∧ atI z.cps.toList i = some c ∧ Q (.str ⟨#[c]⟩) H
theorem ix_list : IxR X (rIxL X.K) := by
  intro value slice pins s σ H x y v u Q I rx ry h hs
  obtain ⟨p, xs, i, z, rfl, rfl, hq, he, q⟩ := h
  cases rx
  obtain ⟨t, rfl⟩ := ry
  obtain ⟨its, r, pl, hz⟩ := I.list hq
  obtain ⟨j, h1, h2, h3, h4, h5⟩ := atI_get he
  obtain ⟨w, ew, rw'⟩ := r.get h2
  have hl := r.length
  have hn := line63
  have fin : EP X pins σ Q w s := ⟨z, H, I, rw', q⟩
  by_cases h0 : 0 ≤ i
  · have hj : i.toNat = j := by
      rw [seqIndex_of h0 h5] at h1
      exact Option.some.inj h1
    exact item_listR pl.isList h0 (by omega) (by rw [hj]; simpa using ew) fin hs
  · have hj : (i + (its.toArray.size : Int)).toNat = j := by
      rw [seqIndex_neg (by omega) h4] at h1
      rw [List.size_toArray, ← hl]
      exact Option.some.inj h1
    exact subscriptTail_builtinR (x := w) pl.isList.typeIs slot_list_getitem.lookup
      (wpAny_getItem_list_neg (Q := fun r s' => r = w ∧ EP X pins σ Q r s') pl.isList (by omega) (by rw [List.size_toArray] <;> omega) (by omega) (by rw [hj]; simpa using ew) ⟨rfl, fin⟩) hs
theorem ix_tup : IxR X (rIxT X.K) := by
  intro value slice pins s σ H x y v u Q I rx ry h hs
  obtain ⟨p, xs, i, z, rfl, rfl, hq, he, q⟩ := h
  cases rx
  obtain ⟨t, rfl⟩ := ry
  obtain ⟨its, r, pl, hz⟩ := I.tuple hq
  obtain ⟨j, h1, h2, h3, h4, h5⟩ := atI_get he
  obtain ⟨w, ew, rw'⟩ := r.get h2
  have hl := r.length
  have hn := line63
  have fin : EP X pins σ Q w s := ⟨z, H, I, rw', q⟩
  exact subscriptTail_builtinR (x := w) pl.typeIs slot_tuple_getitem.lookup
    (getItem_tuple (j := j) (Q := fun r s' => r = w ∧ EP X pins σ Q r s') pl (by omega) (by omega) (by rw [List.size_toArray, ← hl]; exact h1) (by simpa using ew) ⟨rfl, fin⟩) hs
theorem ix_str : IxR X rIxS := by
  intro value slice pins s σ H x y v u Q I rx ry h hs
  obtain ⟨z, i, c, rfl, rfl, hz, he, q⟩ := h
  obtain ⟨t, rfl⟩ := rx
  obtain ⟨t', rfl⟩ := ry
  obtain ⟨j, h1, h2, h3, h4, h5⟩ := atI_get he
  have hl : z.cps.toList.length = z.length := by simp [Str.length]
  rw [hl] at h1 h4 h5
  have hn := line63
  exact tail_any (typeIs_str s z t) slot_str_getitem.lookup (getItem_str (c := c) (by
    have e1 : decide (i < -(2 ^ 63 : Int)) = false := decide_eq_false (by omega)
    have e2 : decide (i ≥ 2 ^ 63) = false := decide_eq_false (by omega)
    rw [e1, e2, Bool.or_false]) (by rw [h1]; simpa using h2) ⟨.str ⟨#[c]⟩, H, I.tok _, ⟨_, rfl⟩, q⟩) hs

/-! ### xs[i] = v, any sign -/
/-- the list's object behind a store -/
theorem mapSeq_set (its : List Value) (n j : Nat) (u : Value) : Obj.mapSeq (·.setIfInBounds j u) { cls := .type "list", data := .seq its.toArray n } = { cls := .type "list", data := .seq (its.set j u).toArray n } := by
  simp [Obj.mapSeq]
theorem Inv.lst {pins : List (Addr × Obj)} {σ : St} {H : Hp} {s : Shared} {p : Addr} {xs : List V} (I : Inv X pins σ H s) (h : H p = some (.lst xs)) :
    ∃ (its : List Value) (n : Nat), Vals xs its ∧ s.heap.get? p = some { cls := .type "list", data := .seq its.toArray n } ∧ xs.length ≤ sizeLine := by
  obtain ⟨z, its, n, r, e⟩ := I.hok p _ h
  exact ⟨its, n, r, e, z⟩
/-- the list at p is written by an update of its object -/
theorem Inv.lstUpd {pins : List (Addr × Obj)} {σ : St} {H : Hp} {s : Shared} {p : Addr} {xs ys : List V} {its its' : List Value} {n n' : Nat} {f : Obj → Obj} (I : Inv X pins σ H s) (h : H p = some (.lst xs))
    (ho : s.heap.get? p = some { cls := .type "list", data := .seq its.toArray n }) (hf : f { cls := .type "list", data := .seq its.toArray n } = { cls := .type "list", data := .seq its'.toArray n' }) (r : Vals ys its') (hz : ys.length ≤ sizeLine) (t : Nat) :
    Inv X pins σ (upd H p (.lst ys)) { s with heap := s.heap.update p f, toks := t } := by
  have e : (s.heap.update p f).get? p = some { cls := .type "list", data := .seq its'.toArray n' } := by
    rw [Heap.get?_update_self f ho (by rw [hf] <;> rfl), hf]
  refine I.write (x := p) (e := p) (by rw [h]; trivial) (.inl rfl) (fun b u hb q => (Heap.get?_update_other _ _ (Ne.symm hb)).trans q) ⟨_, e⟩ ?_
  exact ⟨hz, its', n', r, e⟩
noncomputable def rSetL : V → V → V → Hp → (Hp → Prop) → Prop := fun o i v H Q => ∃ p xs k j, o = .ref p ∧ i = .int k ∧ H p = some (.lst xs) ∧ ixN xs.length k = some j ∧ Q (upd H p (.lst (xs.set j v)))
theorem set_list : PSet X rSetL := by
  intro pins s σ H o i v ov iv u Q I ro ri rv h
  obtain ⟨p, xs, k, j, rfl, rfl, hp, hj, q⟩ := h
  cases ro
  obtain ⟨t, rfl⟩ := ri
  obtain ⟨its, n, r, ho, hz⟩ := I.lst hp
  obtain ⟨h1, h2, h3, h4⟩ := ixN_seq hj
  have hl := r.length
  have hn := line63
  have I' : Inv X pins σ (upd H p (.lst (xs.set j v))) { s with heap := s.heap.update p (Obj.mapSeq (·.setIfInBounds j u)) } :=
    I.lstUpd hp ho (mapSeq_set its n j u) (r.set rv j) (by rw [List.length_set]; exact hz) s.toks
  by_cases h0 : 0 ≤ k
  · have hk : k.toNat = j := by
      rw [seqIndex_of h0 h4] at h1
      exact Option.some.inj h1
    exact PySem.W.ki_setAt ho h0 (by omega) (by rw [List.size_toArray, ← hl]; exact h4) (by rw [hk]; exact ⟨_, I', q⟩)
  · have hk : (k + (its.toArray.size : Int)).toNat = j := by
      rw [seqIndex_neg (by omega) h3] at h1
      rw [List.size_toArray, ← hl]
      exact Option.some.inj h1
    exact PySem.W.ki_setBack ho (by omega) (by rw [List.size_toArray, ← hl]; exact h3) (by omega) (by rw [hk]; exact ⟨_, I', q⟩)

/-! ### slices -/
theorem slice_bounds (lo hi : Option Int) (n : Nat) : (sliceBounds lo hi none n).1 = ((HT.sIx n 0 lo : Nat) : Int) ∧ (sliceBounds lo hi none n).2.1 = ((HT.sIx n n hi : Nat) : Int) ∧ (sliceBounds lo hi none n).2.2 = 1 := by
  refine ⟨?_, ?_, rfl⟩
  · cases lo with
    | none => simp [sliceBounds, HT.sIx]
    | some i =>
      simp only [sliceBounds, HT.sIx, Option.getD_none, show (1 : Int) > 0 by decide, if_true]
      by_cases h : i < 0
      · simp only [h, if_true] <;> omega
      · simp only [h, if_false] <;> omega
  · cases hi with
    | none => simp [sliceBounds, HT.sIx]
    | some i =>
      simp only [sliceBounds, HT.sIx, Option.getD_none, show (1 : Int) > 0 by decide, if_true]
      by_cases h : i < 0
      · simp only [h, if_true] <;> omega
      · simp only [h, if_false] <;> omega
theorem slicePick_cut (its : List Value) (lo hi : Option Int) : slicePick its.toArray lo hi none = ((its.drop (HT.sIx its.length 0 lo)).take (HT.sIx its.length its.length hi - HT.sIx its.length 0 lo)).toArray := by
  obtain ⟨h1, h2, h3⟩ := slice_bounds lo hi its.toArray.size
  unfold slicePick
  rw [h1, h2, h3]
  simp only [sliceRange_one, pick_run, List.size_toArray] <;> rfl
/-- xs[lo:hi] of a list: a new list -/
noncomputable def rSlL (K : PySem.W.Frag) : V → Option Int → Option Int → Hp → VK → Prop := fun x lo hi H Q => ∃ a xs, x = .ref a ∧ SqL K H a xs ∧ ∀ p, H p = none → Q (.ref p) (upd H p (.lst (cutV xs lo hi)))
theorem sl_list : SlR X (rSlL X.K) := by
  intro pins s σ H x v vl vu lo hi sl Q I rx hs pl pu h
  obtain ⟨a, xs, rfl, hx, q⟩ := h
  cases rx
  obtain ⟨its, r, ht, hz⟩ := I.list hx
  have hlen := r.length
  refine ⟨"list", _, slot_list_getitem.lookup, ht.isList.typeIs, ?_⟩
  refine wpAny_getItem_list_slice ht.isList hs pl pu .none (by simp) ?_ (by rw [List.size_toArray] <;> omega)
  rw [slicePick_cut, ← hlen]
  refine ⟨.ref s.heap.objs.size, _, I.laid (t' := s.toks) (o := .lst (cutV xs lo hi)) (fun b ob q => Heap.get?_push_of_some _ q) (Nat.le_refl _) ?_, rfl, q _ (I.hok.fresh (Nat.le_refl _))⟩
  exact ⟨Nat.le_trans (cutV_length xs lo hi) hz, _, 0, (r.drop (HT.sIx xs.length 0 lo)).take (HT.sIx xs.length xs.length hi - HT.sIx xs.length 0 lo), Heap.get?_push_size _ rfl⟩

/-! ### in, not in: flat items -/
noncomputable def flatV : V → Bool
  | .non => true
  | .bl _ => true
  | .int _ => true
  | .str _ => true
  | _ => false
/-- == of flat values -/
noncomputable def eqV : V → V → Bool
  | .non, .non => true
  | .bl a, .bl b => a == b
  | .bl a, .int b => (if a then 1 else 0) == b
  | .int a, .bl b => a == (if b then 1 else 0)
  | .int a, .int b => a == b
  | .str a, .str b => a == b
  | _, _ => false
theorem eqAt_V {A : Around} {s : Shared} {y x : V} {u v : Value} (ry : RelV y u) (rx : RelV x v) (fy : flatV y = true) (fx : flatV x = true) : SeqAt.EqAt A s u v (eqV y x) := by
  cases y with
  | non =>
    cases ry
    cases x with
    | non => cases rx; exact SeqAt.EqAt.same _
    | bl b => cases rx; exact SeqAt.EqAt.none_bool b
    | int b => obtain ⟨t, rfl⟩ := rx; exact SeqAt.EqAt.none_int b t
    | str b => obtain ⟨t, rfl⟩ := rx; exact SeqAt.EqAt.none_str b t
    | _ => exact absurd (show false = true from fx) Bool.false_ne_true
  | bl a =>
    cases ry
    cases x with
    | non => cases rx; exact SeqAt.EqAt.bool_none a
    | bl b => cases rx; exact SeqAt.EqAt.bool_bool a b
    | int b => obtain ⟨t, rfl⟩ := rx; exact SeqAt.EqAt.bool_int a b t
    | str b => obtain ⟨t, rfl⟩ := rx; exact SeqAt.EqAt.bool_str a b t
    | _ => exact absurd (show false = true from fx) Bool.false_ne_true
  | int a =>
    obtain ⟨t', rfl⟩ := ry
    cases x with
    | non => cases rx; exact SeqAt.EqAt.int_none a t'
    | bl b => cases rx; exact SeqAt.EqAt.int_bool a t' b
    | int b => obtain ⟨t, rfl⟩ := rx; exact SeqAt.EqAt.int_int a t' b t
    | str b => obtain ⟨t, rfl⟩ := rx; exact SeqAt.EqAt.int_str a t' b t
    | _ => exact absurd (show false = true from fx) Bool.false_ne_true
  | str a =>
    obtain ⟨t', rfl⟩ := ry
    cases x with
    | non => cases rx; exact SeqAt.EqAt.str_none a t'
    | bl b => cases rx; exact SeqAt.EqAt.str_bool a t' b
    | int b => obtain ⟨t, rfl⟩ := rx; exact SeqAt.EqAt.str_int a t' b t
    | str b => obtain ⟨t, rfl⟩ := rx; exact SeqAt.EqAt.str_str a t' b t
    | _ => exact absurd (show false = true from fx) Bool.false_ne_true
  | _ => exact absurd (show false = true from fy) Bool.false_ne_true
/-- the items' answers, read off the values (a value's own answer does not lean on its token) -/
noncomputable def eqU (x : V) (u : Value) : Bool := match u with
  | .none => eqV .non x
  | .bool b => eqV (.bl b) x
  | .int i _ => eqV (.int i) x
  | .str z _ => eqV (.str z) x
  | _ => false
theorem eqU_of {x y : V} {u : Value} (r : RelV y u) (f : flatV y = true) : eqU x u = eqV y x := by
  cases y with
  | non => cases r; rfl
  | bl b => cases r; rfl
  | int i => obtain ⟨t, rfl⟩ := r; rfl
  | str z => obtain ⟨t, rfl⟩ := r; rfl
  | _ => exact absurd (show false = true from f) Bool.false_ne_true
theorem any_eqU {x : V} : ∀ {xs : List V} {us : List Value}, Vals xs us → xs.all flatV = true → us.any (eqU x) = xs.any fun y => eqV y x
  | _, _, .nil, _ => rfl
  | y :: xs, u :: us, .cons r t, f => by
    rw [List.all_cons, Bool.and_eq_true] at f
    rw [List.any_cons, List.any_cons, eqU_of r f.1, any_eqU t f.2]
theorem mem_eqAt {A : Around} {s : Shared} {x : V} {v : Value} (rx : RelV x v) (fx : flatV x = true) : ∀ {xs : List V} {us : List Value}, Vals xs us → xs.all flatV = true → ∀ u ∈ us, SeqAt.EqAt A s u v (eqU x u)
  | _, _, .nil, _ => fun u hu => by cases hu
  | y :: xs, u :: us, .cons r t, f => fun u' hu => by
    rw [List.all_cons, Bool.and_eq_true] at f
    rcases List.mem_cons.mp hu with rfl | hu
    · rw [eqU_of r f.1]; exact eqAt_V r rx f.1 fx
    · exact mem_eqAt rx fx t f.2 u' hu
noncomputable def inV (x : V) (xs : List V) : Bool := xs.any fun y => eqV y x
/-- x in a list or tuple of flat items -/
noncomputable def rIn (K : PySem.W.Frag) (neg : Bool) : R2 := fun x y H Q => ∃ p xs, y = .ref p ∧ (SqL K H p xs ∨ SqT K H p xs) ∧ flatV x = true ∧ xs.all flatV = true ∧ Q (.bl (if neg then !inV x xs else inV x xs)) H
theorem op_in_seq : OpR X (compareOp .In) (rIn X.K false) := by
  intro pins s σ H x y v u Q I rx ry h
  obtain ⟨p, xs, rfl, hq, fx, fs, q⟩ := h
  cases ry
  rcases hq with hq | hq
  · obtain ⟨its, r, pl, hz⟩ := I.list hq
    refine SeqAt.in_listAt (eqU x) pl.isList (fun w hw => mem_eqAt rx fx r fs w (by simpa using hw)) ⟨.bl _, H, I, rfl, ?_⟩
    rw [show its.toArray.any (eqU x) = its.any (eqU x) by simp, any_eqU r fs]
    exact q
  · obtain ⟨its, r, pl, hz⟩ := I.tuple hq
    refine SeqAt.in_tupleAt (eqU x) pl (fun w hw => mem_eqAt rx fx r fs w (by simpa using hw)) ⟨.bl _, H, I, rfl, ?_⟩
    rw [show its.toArray.any (eqU x) = its.any (eqU x) by simp, any_eqU r fs]
    exact q
theorem op_notIn_seq : OpR X (compareOp .NotIn) (rIn X.K true) := by
  intro pins s σ H x y v u Q I rx ry h
  obtain ⟨p, xs, rfl, hq, fx, fs, q⟩ := h
  cases ry
  rcases hq with hq | hq
  · obtain ⟨its, r, pl, hz⟩ := I.list hq
    refine SeqAt.notIn_listAt (eqU x) pl.isList (fun w hw => mem_eqAt rx fx r fs w (by simpa using hw)) ⟨.bl _, H, I, rfl, ?_⟩
    rw [show its.toArray.any (eqU x) = its.any (eqU x) by simp, any_eqU r fs]
    exact q
  · obtain ⟨its, r, pl, hz⟩ := I.tuple hq
    refine SeqAt.notIn_tupleAt (eqU x) pl (fun w hw => mem_eqAt rx fx r fs w (by simpa using hw)) ⟨.bl _, H, I, rfl, ?_⟩
    rw [show its.toArray.any (eqU x) = its.any (eqU x) by simp, any_eqU r fs]
    exact q
theorem op_notIn_str : OpR X (compareOp .NotIn) (fun x y H Q => ∃ i j, x = .str i ∧ y = .str j ∧ Q (.bl (!(!(Builtin.Str.occurrences j i 0 j.length 1).isEmpty))) H) := by
  intro pins s σ H x y v u Q I rx ry h
  obtain ⟨i, j, rfl, rfl, q⟩ := h
  obtain ⟨t, rfl⟩ := rx
  obtain ⟨t', rfl⟩ := ry
  exact notIn_str ⟨.bl _, H, I, rfl, q⟩

/-! ### len, list(x), tuple(x) of any list or tuple that is read -/
theorem call_len_str : CallR X (.builtin "len") (fun xs H Q => ∃ z, xs = [.str z] ∧ z.length ≤ sizeLine ∧ Q (.int z.length) H) := by
  intro pins s σ H xs us Q I r h
  obtain ⟨z, rfl, hz, q⟩ := h
  obtain ⟨u, rfl, t, rfl⟩ := vals1 r
  have hn := line63
  exact len_str (by omega) ⟨.int z.length, H, I.tok _, ⟨_, rfl⟩, q⟩

/-! ### the call of a builtin's method: o.m(..) -/
/-- the value is of that builtin type -/
noncomputable def tyV (K : PySem.W.Frag) (T : String) (x : V) (H : Hp) : Prop := match x with
  | .str _ => T = "str"
  | .int _ => T = "int"
  | .ref p => (T = "list" ∧ ∃ xs, SqL K H p xs) ∨ (T = "tuple" ∧ ∃ o, K.lookup p = some o ∧ o.cls = .type "tuple" ∧ o.dict = none) ∨
      (T = "dict" ∧ ((∃ kvs, H p = some (.dK kvs)) ∨ ∃ kvs, H p = some (.dT kvs))) ∨ (T = "set" ∧ ∃ S n, H p = some (.set S n))
  | _ => False
theorem tyV_is {pins : List (Addr × Obj)} {σ : St} {H : Hp} {s : Shared} {T : String} {x : V} {v : Value} (I : Inv X pins σ H s) (r : RelV x v) (ty : tyV X.K T x H) :
    s.TypeIs v T ∧ ∀ a, v = .ref a → ∃ ob, s.heap.get? a = some ob ∧ ob.dict = none := by
  cases x with
  | str z =>
    obtain ⟨t, rfl⟩ := r
    cases (show T = "str" from ty)
    exact ⟨typeIs_str s z t, fun _ e => nomatch e⟩
  | int i =>
    obtain ⟨t, rfl⟩ := r
    cases (show T = "int" from ty)
    exact ⟨typeIs_int s i t, fun _ e => nomatch e⟩
  | ref p =>
    cases r
    rcases ty with ⟨rfl, xs, hq⟩ | ⟨rfl, o, hk, hc, hd⟩ | ⟨rfl, hk⟩ | ⟨rfl, S, n, hk⟩
    · obtain ⟨its, _, pl, _⟩ := I.list hq
      refine ⟨pl.isList.typeIs, fun a e => ?_⟩
      cases e
      obtain ⟨o, n, e, c, hd, _⟩ := pl
      exact ⟨o, e, hd⟩
    · refine ⟨⟨o, I.kIn p o hk, hc⟩, fun a e => ?_⟩
      cases e
      exact ⟨o, I.kIn _ o hk, hd⟩
    · have z : ∃ o, s.heap.get? p = some o ∧ o.ExactDict := by
        rcases hk with ⟨kvs, hk⟩ | ⟨kvs, hk⟩
        · obtain ⟨_, _, _, _, o, _, _, e, ex, _⟩ := I.hok p _ hk
          exact ⟨o, e, ex⟩
        · obtain ⟨_, _, _, _, o, _, _, e, ex, _⟩ := I.hok p _ hk
          exact ⟨o, e, ex⟩
      obtain ⟨o, e, ex⟩ := z
      refine ⟨⟨o, e, ex.1⟩, fun a e2 => ?_⟩
      cases e2
      exact ⟨o, e, ex.2.1⟩
    · obtain ⟨o, _, _, _, e, ex, _⟩ := I.hok p _ hk
      refine ⟨⟨o, e, ex.1⟩, fun a e2 => ?_⟩
      cases e2
      exact ⟨o, e, ex.2.1⟩
  | _ => exact False.elim ty
noncomputable def tBM (K : PySem.W.Frag) (T : String) (r : V → List V → Hp → VK → Prop) (to : TE) (t : TA) : TE := fun σ H Q => to σ H fun x H1 => tyV K T x H1 ∧ t σ H1 fun xs H2 => r x xs H2 Q
variable {o e : Expr} {es : List Expr} {to : TE} {t : TA} {name : Str} {apos cpos : Pos} {T id : String} {r : V → List V → Hp → VK → Prop}
theorem pe_bm (pa : PlainAttrs T) (slot : Slot T name id) (hty : typeOf (.builtin id) = pure (.type "method_descriptor")) (hm : MtR X id r) (ho : PE X o to) (ha : PA X (e :: es) t)
    (hbase : attributeBase o name X.env (eval o X.env) = eval o X.env := by rfl)
    (hfew : ((backTo cpos (starEach (e :: es) X.env)).all (fun x => !x.1) && (backToKw cpos (keywordEach [] X.env)).all (fun x => x.1.isSome)
      && decide ((e :: es).length + ([] : List Keyword).length + (if ([] : List Keyword).isEmpty then 0 else 1) < 30)) = true := by rfl)
    (hline : (apos.endLine == cpos.line) = true := by rfl) (hs : starEach (e :: es) X.env = (false, eval e X.env) :: starEach es X.env := by rfl) (hplain : (backTo cpos (starEach es X.env)).any (·.1) = false := by rfl) :
    PE X (.Call (.Attribute o name apos) (e :: es) [] cpos) (tBM X.K T r to t) := by
  intro pins s σ H Q I h
  refine wpAny_Call_method_late hbase hfew hline rfl (thn (ho pins s σ H _ I h) fun v s1 ⟨x, H1, I1, r1, ty, q1⟩ => ?_)
  obtain ⟨h1, h2⟩ := tyV_is I1 r1 ty
  refine ⟨T, id, pa, slot, hty, h1, h2, ?_⟩
  have hA := ha cpos pins s1 σ H1 _ I1 q1
  rw [hs] at hA ⊢
  refine Calls.callWith_builtin (by show (false || (backTo cpos (starEach es X.env)).any (·.1)) = false; rw [hplain] <;> rfl) (Calls.evalArgs_plain ?_)
  exact thn hA fun us s2 ⟨vs, H2, I2, r2, q2⟩ => hm pins s2 σ H2 x vs v us Q I2 r1 r2 q2
/- xs.append(e), list.index on a module's tuple .. are MtR facts of 06m -/
end
end L2

namespace L2
open PySem PySem.Spec PyProof.Rows

noncomputable def MtM (X : Cx) (id : String) (r : V → List V → Hp → VK → Prop) : Prop :=
  ∀ (pins : List (Addr × Obj)) (s : Shared) (σ : St) (H : Hp) (x : V) (xs : List V) (v : Value) (us : List Value) (Q : VK), Inv X pins σ H s → RelV x v → Vals xs us → r x xs H Q →
    wpAny (model X.prog X.w) X.A (call (.builtin id) (v :: us)) (EP X pins σ Q) X.xe s

/-! ### lists of values -/
theorem Vals.one : ∀ {x : V} {us : List Value}, Vals [x] us → ∃ u, us = [u] ∧ RelV x u
  | _, _, .cons r .nil => ⟨_, rfl, r⟩

section
variable {X : Cx} {pins : List (Addr × Obj)} {σ : St} {H : Hp} {s : Shared} {l b : Addr} {xs ys zs : List V}

/-! ### the two steps: a tracked list is rewritten, a new list is laid -/
theorem Inv.lset {its its' : List Value} {n : Nat} {f : Array Value → Array Value} {t' : Nat} (I : Inv X pins σ H s) (hH : H l = some (.lst xs))
    (e : s.heap.get? l = some { cls := .type "list", data := .seq its.toArray n }) (hf : f its.toArray = its'.toArray) (hv : Vals ys its') (hz : ys.length ≤ sizeLine) :
    Inv X pins σ (upd H l (.lst ys)) { s with heap := s.heap.update l (Obj.mapSeq f), toks := t' } := by
  have q := PySem.IsL.update e f
  rw [hf] at q
  refine I.write (x := l) (e := l) (by rw [hH]; exact trivial) (.inl rfl) (fun b' u hb hu => (Heap.get?_update_other s.heap (Obj.mapSeq f) (Ne.symm hb)).trans hu) ⟨_, q⟩ ?_
  exact ⟨hz, its', _, hv, q⟩
theorem Inv.lstM (I : Inv X pins σ H s) (hH : H l = some (.lst xs)) : xs.length ≤ sizeLine ∧ ∃ (its : List Value) (n : Nat), Vals xs its ∧ xs.length = its.length ∧ s.heap.get? l = some { cls := .type "list", data := .seq its.toArray n } := by
  obtain ⟨z, its, n, r, e⟩ := I.hok l _ hH
  exact ⟨z, its, n, r, r.length, e⟩

end

section
variable {X : Cx}

/-! ### methods -/
noncomputable def rAppend : V → List V → Hp → VK → Prop := fun x vs H Q => ∃ l xs y, x = .ref l ∧ vs = [y] ∧ H l = some (.lst xs) ∧ xs.length < sizeLine ∧ Q .non (upd H l (.lst (xs ++ [y])))
theorem mt_append : MtM X "list.append" rAppend := by
  intro pins s σ H x vs v us Q I rx rv h
  obtain ⟨l, xs, y, rfl, rfl, hH, hz, q⟩ := h
  cases rx
  obtain ⟨u, rfl, ru⟩ := rv.one
  obtain ⟨z, its, n, r, hl, e⟩ := I.lstM hH
  refine call_meets F.slot_list_append ⟨_, e, rfl⟩ F.entry_list_append (F.args_list_append_2 _ _) (PySem.list_append l its.toArray n u (by rw [List.size_toArray]; omega)) ⟨e, ?_⟩
  refine ⟨.non, _, I.lset (its' := its ++ [u]) hH e (by simp) (r.append (.cons ru .nil)) ?_, rfl, q⟩
  rw [List.length_append, List.length_singleton]
  omega






/-! ### list + list, list += list, list * int -/

/-! ### del xs[i] -/
end

/-! ### xs[a:b] = ys -/
section
variable {prog : Program} {w : World} {A : Around} {E : Value → Shared → Prop} {s : Shared}
set_option maxRecDepth 100000 in
end

section
variable {X : Cx}
end
end L2

namespace Att
open PySem PySem.W PySem.Calls PyProof.Rows

/-! ### the script -/
theorem ints_of_wellAll {P : Params} {h : Heap} : ∀ (ns : List Int) (vs : List Value), WellAll P h vs (ns.map WData.int) → IntsAre vs ns := by
  intro ns
  induction ns with
  | nil =>
    intro vs w
    rw [List.map_nil] at w
    cases w
    exact .nil
  | cons n ns ih =>
    intro vs w
    rw [List.map_cons] at w
    cases w with
    | cons a b =>
      cases a
      exact .cons _ _ (ih _ b)

theorem script_of {l : OpenLaw} {n : Nat} (hn : l.most = some n) {P : Params} {h : Heap} {args : List WData} {vals : List Value}
    (hpre : l.row.toRowW.claim.pre args = true) (hwl : WellAll P h vals args) :
    ∃ a vs ns, vals = [Value.ref a] ∧ args = [WData.list (ns.map WData.int)] ∧ h.get? a = some { cls := .type "list", data := .seq vs.toArray } ∧ IntsAre vs ns ∧ ns.length ≤ n := by
  have hsh : WShape.hasAll [] args [.list .int] = true := (pre_splitW hpre).1
  have hc : l.pre.holds [] { args := args } = true := (pre_splitW hpre).2
  obtain ⟨d, r, rfl, h1, h2⟩ := hasAllW_cons hsh
  obtain rfl := hasAllW_nil h2
  obtain ⟨xs, rfl, h3⟩ := hasW_list h1
  obtain ⟨ns, rfl⟩ := items_int h3
  have hlen : ns.length ≤ n := by
    unfold OpenLaw.pre at hc
    have h4 : (WTm.not (.lt (.lit (.int (n : Int))) (.len (.arg 0)))).holds [] { args := [.list (ns.map .int)] } = true := by
      have h4 := (holds_andW hc).1
      rw [hn] at h4
      exact h4
    have h5 := condW_of h4 (w_not (w_lt w_lit (w_len_list (w_arg rfl))))
    rw [List.length_map] at h5
    refine Nat.le_of_not_lt fun q => ?_
    have q' : (n : Int) < ((ns.length : Nat) : Int) := by omega
    first
      | (rw [decide_eq_true q'] at h5; exact absurd h5 (by decide))
      | (simp at h5; omega)
  cases hwl with
  | cons w1 w2 =>
    cases w2
    cases w1 with
    | list ho hall => exact ⟨_, _, ns, rfl, rfl, ho, ints_of_wellAll ns _ hall, hlen⟩

theorem post_true (l : OpenLaw) (args : List WData) : l.row.toRowW.claim.post args (.bool true) args = true :=
  postW_of (r := l.row.toRowW) (X := (true == true))
    (show WShape.has [] (.bool true) .bool = true by first | rfl | decide | simp [WShape.has, WShape.arms, WShape.armsAll])
    (show (WTm.eq .res (.lit (.bool true))).value [] { args := args, res := some (.bool true), after := args } = some (.bool (true == true)) from w_eq_bool (w_res rfl) w_lit) rfl

/-! ### the attachment: holds_open's last premise (the goal 'hc' behind k_head) from a wpAny of the law's body -/

/-- the same from a codeAny of the CALL (for a layer whose function contracts speak of calls) -/
theorem attach_call {l : OpenLaw} {n : Nat} {q : Program} {loose : List Str} {XP : (Str → Option Value) → Heap → Prop} {YP : World → Heap → Prop} {d : DefRec}
    (hn : l.most = some n) (hdf : d.params.defaults = [])
    (call : ∀ (w : World) (s₀ s₁ : Shared) (mg mb : Str → Option Value) (fa : Addr) (o : Obj) (pm cd doc : Value) (a : Addr) (vs : List Value) (ns : List Int),
      Ground q loose [] XP w s₀ mg mb s₁.heap → YP w s₁.heap →
      s₁.heap.get? fa = some o → o.data = .func (docDef d.name d.params d.body d.scope pm cd doc) → s₁.heap.CodeRec cd d.name → mg d.name = some (.ref fa) →
      s₁.heap.get? a = some { cls := .type "list", data := .seq vs.toArray } → IntsAre vs ns → ns.length ≤ n → s₁.gens = #[] →
      codeAny (model l.prog w) callerA (.call (.ref fa) ⟨[.ref a], []⟩) (fun r s' => r = .ok (.ret (.bool true)) ∧ OldK s₁.heap s'.heap ∧ s'.os = s₁.os ∧ AllBare s'.gens) s₁) :
    WalkO q loose XP YP l.row.toRowW d [] (fun f vs => PySem.call f vs) := by
  intro w s₀ s₁ mg mb G Y fa o pm cd doc dV kV ho hd hcd hD hmg hg args vals as hpre hlay hrd hwl hlo
  obtain rfl : dV = .none := Dflts.none hD hdf
  obtain rfl : kV = .none := Dflts.noKw hD
  obtain ⟨a, vs, ns, rfl, rfl, hobj, hints, hlen⟩ := script_of hn hpre hwl
  refine enter_call (codeAny_mono (call w s₀ s₁ mg mb fa o pm cd doc a vs ns G Y ho (fd_plain hd) hcd hmg hobj hints hlen hg) fun r s' hq => ?_)
  obtain ⟨rfl, h2, h3, h4⟩ := hq
  exact ⟨.inl ⟨.bool true, .bool true, [], rfl, fun _ => rfl, .bool true, post_true l _, fun _ => ⟨List.Pairwise.nil, fun _ hm => (nomatch hm)⟩⟩, h2, h3, h4⟩


/-! ### rules over ANY heap (no ledger) from facts about the written part K: the library's own take a ledger (News) for what they write -/
section
variable {prog : Program} {w : World} {A : Around} {E : Value → Shared → Prop} {s : Shared} {K : Frag}





/-! the whole heap as the ledger: makes every rule that writes through a ledger a rule over any heap -/

end
end Att

namespace L2
open PySem PySem.Spec PyProof.Rows

theorem vals_ints : ∀ {vs : List Value} {ns : List Int}, IntsAre vs ns → Vals (ns.map V.int) vs
  | _, _, .nil => .nil
  | _, _, .cons n t h => .cons ⟨t, rfl⟩ (vals_ints h)

/-- nothing is tracked but the script, known to the object (or it is an object of the module) -/
noncomputable def Only (H : Hp) : Prop := ∀ b, H b = none ∨ ∃ o xs, H b = some (.frz o (.lst xs))

/-- THE HEAD: the law's promise, at the heap behind the top. F, the promise of the law's def, may use that base is part of the heap (so K.In base, base.Ns mainGlobals mg stand in Mod) -/
theorem law_call {P : Program} {w : World} {K : PySem.W.Frag} {mg mb : Str → Option Value} {CX : CXT} {k : Nat} {fa a : Addr} {fd : FuncData} {x : Str} {sp : Sp} {s₁ : Shared} {vs : List Value} {ns : List Int}
    (KX : K.In s₁.heap) (hns : s₁.heap.Ns mainGlobals mg) (hb : s₁.heap.Ns builtinsNs mb) (hbb : ∀ x : Str, x ≠ "__name__" → mb x = bootBuiltins x) (hlim : s₁.heap.NoLimit) (hg : s₁.gens = #[])
    (ha : s₁.heap.get? a = some { cls := .type "list", data := .seq vs.toArray }) (hi : IntsAre vs ns) (hl : ns.length ≤ sizeLine) (hr : Room k callerA)
    (F : ∀ base : Heap, K.In base → base.Ns mainGlobals mg → FnOk P w K mg base CX k fa fd [x] sp) (hbind : ∀ (s : Shared) (u : Value), BindsTo s fd ⟨[u], []⟩ [(x, u)])
    (hsp : ∀ H : Hp, Only H → SqL K H a (ns.map V.int) → sp [.ref a] H (fun v _ => v = .bl true) fun _ _ _ => False)
    (hCX : ∀ H e s', CX [] H s₁ (fun _ _ _ => False) e s' → False) :
    codeAny (model P w) callerA (.call (.ref fa) ⟨[.ref a], []⟩) (fun r s' => r = .ok (.ret (.bool true)) ∧ OldK s₁.heap s'.heap ∧ s'.os = s₁.os ∧ AllBare s'.gens) s₁ := by
  have rv := vals_ints hi
  have lenV := hi.length
  -- from an abstract heap in which nothing but the script may be tracked
  have core : ∀ H : Hp, Only H → SqL K H a (ns.map V.int) → HOk P w H s₁.heap → (∀ b, H b ≠ none → b = a) → (H a ≠ none → K.lookup a = none) →
      codeAny (model P w) callerA (.call (.ref fa) ⟨[.ref a], []⟩) (fun r s' => r = .ok (.ret (.bool true)) ∧ OldK s₁.heap s'.heap ∧ s'.os = s₁.os ∧ AllBare s'.gens) s₁ := by
    intro H hO hS hok hA hK
    have base_of : ∀ {b : Addr} {o : Obj}, s₁.heap.get? b = some o → H b = none → (hidT s₁.heap H).get? b = some o := fun e n => hidT_get e n
    have noA : ∀ {b : Addr} {o : Obj} {es : Array DictEntry} {ep : Nat}, s₁.heap.get? b = some o → o.data = .dict es ep → H b = none := fun {b o es ep} e d => by
      cases q : H b with
      | none => rfl
      | some u =>
        have e' : b = a := hA b (by rw [q]; simp)
        subst e'
        rw [ha] at e; cases e
        have d' : Data.seq vs.toArray _ = Data.dict es ep := d
        cases d'
    have nsK : ∀ {b : Addr} {m : Str → Option Value}, s₁.heap.Ns b m → (hidT s₁.heap H).Ns b m := fun {b m} ⟨o, es, ep, e, d, r⟩ => ⟨o, es, ep, base_of e (noA e d), d, r⟩
    have hKb : K.In (hidT s₁.heap H) := fun b o e => base_of (KX b o e) (by
      cases q : H b with
      | none => rfl
      | some u =>
        have e' : b = a := hA b (by rw [q]; simp)
        subst e'
        rw [hK (by rw [q]; simp)] at e; cases e)
    have hM : Mod K mg (hidT s₁.heap H) := ⟨hKb, nsK hns, ⟨mb, nsK hb, hbb⟩, let ⟨mc, h1, h2⟩ := hlim; ⟨mc, nsK h1, h2⟩⟩
    have e0 : Env0 P w K mg (hidT s₁.heap H) callerA [] s₁ H := ⟨rfl, hM, fun b o e => of_hidT e, Nat.le_of_eq (hidT_size _ _), trivial, fun b hb => absurd (show b ∈ ([] : List Addr) from hb) (by simp), hok, .of_eq hg⟩
    refine codeAny_mono ((F _ hKb (nsK hns)).run callerA [] s₁ H ⟨[.ref a], []⟩ [.ref a] [.ref a] _ _ hr e0 (hbind s₁ (.ref a)) (.cons rfl .nil) (hsp H hO hS)) fun r s' h => ?_
    cases r with
    | error e => exact (hCX H e s' h).elim
    | ok fl =>
      cases fl with
      | next => exact False.elim h
      | brk => exact False.elim h
      | cont => exact False.elim h
      | ret u =>
        obtain ⟨v, H', os, bare, un, hok', r', q⟩ := h
        have q' : v = .bl true := q
        subst q'
        obtain rfl : u = Value.bool true := r'
        refine ⟨rfl, OldK.of_keep fun b o e => ?_, os, bare⟩
        cases q : H b with
        | none => exact un.keep b o e q (by intro z; exact absurd (show b ∈ ([] : List Addr) from z) (by simp)) (by simp)
        | some u =>
          rcases hO b with z | ⟨ob, xs, z⟩
          · rw [q] at z; cases z
          · have z2 := un.frzs b ob _ z
            obtain ⟨e1, _⟩ := hok b _ z
            obtain ⟨e2, _⟩ := hok' b _ z2
            rw [e] at e1; cases e1
            exact e2
  cases hk : K.lookup a with
  | some o =>
    -- the script is one of the module's own objects
    have e := KX a o hk
    rw [ha] at e
    cases e
    refine core (fun _ => none) (fun _ => .inl rfl) (.inr ⟨_, vs.toArray, _, hk, rfl, rfl, rfl, by rw [List.size_toArray, lenV]; exact hl, by simpa using rv⟩) (fun b u z => by have z' : (none : Option HO) = some u := z; cases z') (fun b z => absurd rfl z) fun z => absurd rfl z
  | none =>
    refine core (fun b => if b = a then some (.frz { cls := .type "list", data := .seq vs.toArray } (.lst (ns.map V.int))) else none) (fun b => ?_) (.inl (.inr ⟨{ cls := .type "list", data := .seq vs.toArray }, if_pos rfl⟩)) (fun b u z => ?_) (fun b z => ?_) fun _ => hk
    · by_cases hb : b = a
      · exact .inr ⟨_, _, if_pos hb⟩
      · exact .inl (if_neg hb)
    · by_cases hb : b = a
      · have z' := (if_pos hb).symm.trans z
        cases z'
        subst hb
        exact ⟨ha, by rw [List.length_map]; exact hl, vs, _, rv, ha⟩
      · have z' := (if_neg hb).symm.trans z
        cases z'
    · by_cases hb : b = a
      · exact hb
      · exact absurd (if_neg hb) z
end L2

namespace L2
open PySem PySem.Spec PyProof.Rows

noncomputable abbrev KOf {K : PySem.W.Frag} {h : Heap} (_ : K.In h) : PySem.W.Frag := K

/-- the goal that k_head leaves (case hc), from the law's promise. F gives the function object fd (K's own) once, then the promise over every base -/
theorem walk_of {l : PySem.W.OpenLaw} {n k : Nat} {q : Program} {loose : List Str} {XP : (Str → Option Value) → Heap → Prop} {YP : World → Heap → Prop} {d : DefRec} {K : Params → PySem.W.Frag} {CX : World → CXT} {sp : World → Sp} {x : Str}
    (hn : l.most = some n) (hn2 : n ≤ sizeLine) (hdf : d.params.defaults = []) (hr : Room k callerA)
    (hY : ∀ (w : World) (h : Heap), YP w h → (K w.params).In h)
    (F : ∀ (w : World) (mg : Str → Option Value) (fa : Addr) (h : Heap), (K w.params).In h → h.Ns mainGlobals mg → mg d.name = some (.ref fa) →
      ∃ fd : FuncData, (∀ (s : Shared) (u : Value), BindsTo s fd ⟨[u], []⟩ [(x, u)]) ∧
        ∀ base : Heap, (K w.params).In base → base.Ns mainGlobals mg → FnOk l.prog w (K w.params) mg base (CX w) k fa fd [x] (sp w))
    (hsp : ∀ (w : World) (H : Hp) (a : Addr) (ns : List Int), ns.length ≤ n → Only H → SqL (K w.params) H a (ns.map V.int) → sp w [.ref a] H (fun v _ => v = .bl true) fun _ _ _ => False)
    (hCX : ∀ (w : World) (H : Hp) (s : Shared) (e : Value) (s' : Shared), CX w [] H s (fun _ _ _ => False) e s' → False) :
    PySem.W.WalkO q loose XP YP l.row.toRowW d [] (fun f vs => PySem.call f vs) := by
  refine Att.attach_call hn hdf fun w s₀ s₁ mg mb fa o pm cd doc a vs ns G Y ho hd hcd hmg hobj hints hlen hg => ?_
  have KX := hY w _ Y
  obtain ⟨fd, hb, hF⟩ := F w mg fa _ KX G.T.g hmg
  exact law_call KX G.T.g G.T.b G.T.builtins G.T.nolimit hg hobj hints (Nat.le_trans hlen hn2) hr hF hb (fun H hO hS => hsp w H a ns hlen hO hS) fun H e s' => hCX w H s₁ e s'
end L2

/- THE LAST THEOREM (shape; LID, My.* are yours):
   My.Adr: a structure of the addresses that your layer names (classes, functions); My.Txt K t: a structure (Prop) of the equations over K;
   My.txt_mk : {K} {implicit addresses ..} (e1 : nsIn K mainGlobals "law" = some (some (.ref f))) (e2 : K.lookup f = some ⟨oc, od, .func (fnOf "law" "law" params body scope dV kV doc pm an cdv ct), sl⟩) (e3 : codeIn K cdv "law" = true) .. : ∃ t, My.Txt K t

set_option maxRecDepth 100000 in
set_option maxHeartbeats 0 in
theorem PySem.Challenge.cw_LID_holds : PySem.Challenge.rw_LID.Holds := by
  w_on; o_law; k_head; (case hw => w_witness2)
  k_fill
  refine L2.walk_of (l := PySem.Challenge.rw_LID) (n := 63) (k := 40) (x := "script") (CX := fun w => ..) (sp := fun _ => My.sp_law) rfl (by decide) rfl ⟨rfl, by decide, by decide⟩ (fun w h Y => PySem.W.kIn_of Y) ?F ?S ?C
  case F =>
    intro w mg fa h KX G hmg
    have T : ∃ t, My.Txt (L2.KOf KX) t := by
      dsimp only [L2.KOf]                          -- K must stand as «<heap const> w.params» for k_is
      refine' My.txt_mk ?e1 ?e2 ?e3 ..
      (case e1 => PySem.W.k_is)                    -- in the order: a name -> its address -> its object -> its parts
      (case e2 => PySem.W.k_is)
      ..
    obtain ⟨t, T⟩ := T
    have e0 := hmg.symm.trans (PySem.W.mg_of KX G T.law)
    cases e0                                       -- fa is the law's own address
    exact ⟨_, fun s u => .of_eq rfl, fun base kb nb => My.law_fn T kb nb⟩     -- if «.of_eq rfl» comes too early: refine' ⟨_, ?b, fun base kb nb => My.law_fn T kb nb⟩; exact fun s u => .of_eq rfl
  case S => exact fun w H a ns hl hO hS => ..
  case C => exact ..
(the tactic k_is has no namespace: write k_is) -/

/-! SHORT WORDS over the layer: a def of the text, its body, what a loop and a test want. -/
namespace L2
open PySem PySem.Spec PyProof.Rows

/-! ### the text by places -/
/-- the j-th statement of a class's body -/
noncomputable def inClass (s : Stmt) (j : Nat) : Stmt := match s with
  | .ClassDef _ _ _ body _ _ _ _ _ _ _ => body.getD j (.Pass ⟨0, 0, 0, 0⟩)
  | _ => .Pass ⟨0, 0, 0, 0⟩
noncomputable def defArgs (s : Stmt) : Arguments := match s with
  | .FunctionDef _ a _ _ _ _ _ _ _ _ => a
  | _ => { posonlyargs := [], args := [], vararg := none, kwonlyargs := [], kw_defaults := [], kwarg := none, defaults := [] }
noncomputable def defBody (s : Stmt) : List Stmt := match s with
  | .FunctionDef _ _ b _ _ _ _ _ _ _ => b
  | _ => []
noncomputable def defScope (s : Stmt) : Scope := match s with
  | .FunctionDef _ _ _ _ _ _ sc _ _ _ => sc
  | _ => { kind := .function, names := [], isGenerator := false, isCoroutine := false }

/-! ### no exception leaves a def -/

/-! ### a def (or method) of the text as it stands behind the top -/
structure Fun (K : PySem.W.Frag) (x qual : Str) (st : Stmt) (f : Addr) (fd : FuncData) : Prop where
  ex : ∃ (oc : Value) (od : Option Addr) (kV doc pm : Value) (an : Option Addr) (cdv ct : Value) (osl : Array (Option Value)),
    fd = PySem.W.fnOf x qual (defArgs st) (defBody st) (defScope st) .none kV doc pm an cdv ct ∧ K.lookup f = some ⟨oc, od, .func fd, osl⟩ ∧ PySem.W.codeIn K cdv qual = true
  kp : PySem.W.keepIn K (.ref f) = true
section
variable {P : Program} {w : World} {K : PySem.W.Frag} {mg : Str → Option Value} {base : Heap}
/-- how its arguments bind (no defaults): h is «fun _ _ _ _ _ _ us hl => match us, hl with | [_, _], _ => rfl», one _ a parameter -/
theorem Fun.binds {x qual : Str} {st : Stmt} {f : Addr} {fd : FuncData} {ps : List Str} (F : Fun K x qual st f fd)
    (h : ∀ (kV doc pm : Value) (an : Option Addr) (cdv ct : Value) (us : List Value), us.length = ps.length → bindArgs (PySem.W.fnOf x qual (defArgs st) (defBody st) (defScope st) .none kV doc pm an cdv ct) ⟨us, []⟩ = pure (ps.zip us)) : Binds K fd ps [] := by
  obtain ⟨oc, od, kV, doc, pm, an, cdv, ct, osl, rfl, lk, hcd⟩ := F.ex
  exact .all (h kV doc pm an cdv ct)
theorem fun_mk {x qual : Str} {st : Stmt} {f : Addr} {oc : Value} {od an : Option Addr} {osl : Array (Option Value)} {kV doc pm cdv ct : Value} (l : K.lookup f = some ⟨oc, od, .func (PySem.W.fnOf x qual (defArgs st) (defBody st) (defScope st) .none kV doc pm an cdv ct), osl⟩)
    (c : PySem.W.codeIn K cdv qual = true) (k : PySem.W.keepIn K (.ref f) = true) : Fun K x qual st f (PySem.W.fnOf x qual (defArgs st) (defBody st) (defScope st) .none kV doc pm an cdv ct) := ⟨⟨oc, od, kV, doc, pm, an, cdv, ct, osl, rfl, l, c⟩, k⟩
end

/-! ### expressions in short: the name that stands in the i-th slot -/
section
variable {X : Cx}
theorem pv (i : Nat) {x : Str} {pos : Pos} (hN : X.N[i]? = some x := by rfl) (hv : Vis X.env.scope x := by first | exact Or.inl rfl | exact Or.inr (Or.inl rfl) | exact Or.inr (Or.inr rfl)) (hd : (x == ("__debug__" : Str)) = false := by decide)
    (hcd : (x == ("__classdict__" : Str)) = false := by decide) : PE X (.Name x pos) (tVar i) := pe_var hN hv hd hcd
end

/-! ### tests -/
theorem iteF {A B : Prop} (h : B) : if false = true then A else B := by
  rw [if_neg Bool.false_ne_true]
  exact h
theorem iteT {A B : Prop} (h : A) : if true = true then A else B := by
  rw [if_pos rfl]
  exact h
theorem ite2 {c A B : Prop} [Decidable c] (h1 : c → A) (h2 : ¬ c → B) : if c then A else B := by
  by_cases h : c
  · rw [if_pos h]
    exact h1 h
  · rw [if_neg h]
    exact h2 h

/-! ### heaps -/
/-- all that was tracked is as it was -/
noncomputable def Same (H H' : Hp) : Prop := ∀ b o, H b = some o → H' b = some o
theorem Same.refl (H : Hp) : Same H H := fun _ _ h => h
theorem Same.trans {H H1 H2 : Hp} (a : Same H H1) (b : Same H1 H2) : Same H H2 := fun c o h => b c o (a c o h)
theorem Same.seq {K : PySem.W.Frag} {H H' : Hp} {a : Addr} {xs : List V} (e : Same H H') (h : SqL K H a xs) : SqL K H' a xs := by
  rcases h with (h | ⟨o, h⟩) | h
  · exact .inl (.inl (e _ _ h))
  · exact .inl (.inr ⟨o, e _ _ h⟩)
  · exact .inr h

/-! ### a dict's pairs: keys that differ -/
section
variable {κ : Type} [DecidableEq κ]
end
end L2

/-! EXCEPTIONS over the hand layer: own error classes raised in a def, handed on through callers, caught by a try. -/
namespace L2
open PySem PySem.Spec PyProof.Rows

/-- the exception at e is on its way: T its newest entry, which marks no frame -/
noncomputable def Fly (h : Heap) (e T : Addr) (cls : Value) (dct : Option Addr) : Prop :=
  ∃ oe vs oT ts, h.get? e = some oe ∧ oe.cls = cls ∧ oe.dict = dct ∧ oe.data = .fields vs ∧ vs[1]? = some (.ref T) ∧ T ≠ e ∧ h.get? T = some oT ∧ oT.data = .fields ts ∧ ts[3]? = some .none
/-- .. marked by fl -/
noncomputable def FlyAt (h : Heap) (e T : Addr) (cls : Value) (dct : Option Addr) (fl : Value) : Prop :=
  ∃ oe vs oT ts, h.get? e = some oe ∧ oe.cls = cls ∧ oe.dict = dct ∧ oe.data = .fields vs ∧ vs[1]? = some (.ref T) ∧ T ≠ e ∧ h.get? T = some oT ∧ oT.data = .fields ts ∧ ts[3]? = some fl

/-- what an entry changes: e itself, the frames' slots, one new record at T -/
structure Noted (fs : List Addr) (e T : Addr) (h h' : Heap) : Prop where
  keep : ∀ b o, b ≠ e → b ∉ fs → h.get? b = some o → h'.get? b = some o
  slot : ∀ b o, b ≠ e → h.get? b = some o → ∃ sl, h'.get? b = some { o with slots := sl }
  new : h.objs.size ≤ T

section
variable {M : Model} {A : Around} {E : Value → Shared → Prop} {s : Shared}

theorem entry_x {base : Heap} {env : Env} {outer : List Env} {L e : Addr} {oe : Obj} {vs : Array Value} {head : Value} {hadNext : Bool} {Q : Unit → Shared → Prop}
    (hfr : A.frames = some (env :: outer)) (hl : s.heap.FunFrames base (env :: outer)) (hf : env.frame = some L) (he : s.heap.get? e = some oe) (hd : oe.data = .fields vs) (hsz : 1 < vs.size)
    (h : ∀ h' T, Noted (frs (env :: outer)) e T s.heap h' → FlyAt h' e T oe.cls oe.dict (rawInt L) → Q () { s with heap := h' }) :
    wpAny M A (do
      let a ← frameOf env
      let pl ← entryPlaceOf L hadNext
      let b ← EntryCells.newEntry head a .none (rawInt L) .none pl
      setField (.ref e) 1 b) Q E s := by
  have nf : e ∉ (env :: outer).filterMap (·.frame) := fun hm => by
    obtain ⟨_, o, ho, hnf⟩ := hl.mem hm
    rw [he] at ho
    cases ho
    exact hnf vs hd
  refine wpAny_bind (wpAny_frameOf_fun hfr hl hf fun h1 so => wpAny_bind (wpAny_entryPlaceOf fun pl hpl => ?_))
  unfold EntryCells.newEntry newFields
  refine wpAny_bind (wpAny_newObj_type ?_ (hpl.sizeOk5 _ _ _ _ _))
  have e1 : h1.get? e = some oe := (so.2.1 e nf).trans he
  generalize hn : ([head, Value.ref L, Value.none, rawInt L, Value.none] ++ (if pl.isEmpty = true then List.replicate 6 Value.none else pl)) = cells
  have c3 : cells.toArray[3]? = some (rawInt L) := by subst hn; simp
  have e2 := Heap.get?_push_of_some (h := h1) { cls := .type "traceback", dict := none, data := .fields cells.toArray } e1
  refine wpAny_setField e2 hd hsz ?_
  have ne : h1.objs.size ≠ e := Nat.ne_of_gt (Heap.lt_size e1)
  have d3 := Obj.data_mapFields hd (·.setIfInBounds 1 (Value.ref h1.objs.size))
  refine h _ h1.objs.size ⟨fun b o hbe hbf hb => ?_, fun b o hbe hb => ?_, Nat.le_of_eq so.1.symm⟩ ?_
  · rw [Heap.get?_update_other _ _ (Ne.symm hbe)]
    exact Heap.get?_push_of_some _ ((so.2.1 b hbf).trans hb)
  · obtain ⟨sl, hs⟩ := so.2.2 b o hb
    refine ⟨sl, ?_⟩
    rw [Heap.get?_update_other _ _ (Ne.symm hbe)]
    exact Heap.get?_push_of_some _ hs
  · refine ⟨_, _, { cls := .type "traceback", dict := none, data := .fields cells.toArray }, cells.toArray, Heap.get?_update_self _ e2 (Obj.isFreed_of_fields d3), Obj.cls_mapFields _ _, ?_, d3, by simp [hsz], ne, ?_, rfl, c3⟩
    · obtain ⟨c, d, dt, sl⟩ := oe
      cases dt <;> rfl
    · rw [Heap.get?_update_other _ _ (Ne.symm ne)]
      exact Heap.get?_push_size h1 rfl

/-- the newest entry's mark is taken back -/
theorem flight_x {e T : Addr} {cls : Value} {dct : Option Addr} {fl : Value} {Q : Unit → Shared → Prop} (ht : FlyAt s.heap e T cls dct fl)
    (h : ∀ h', (∀ b o, b ≠ T → s.heap.get? b = some o → h'.get? b = some o) → Fly h' e T cls dct → Q () { s with heap := h' }) : wpAny M A (setFlight (.ref e) none) Q E s := by
  obtain ⟨oe, vs, oT, ts, he, hc, hdx, hd, h1, ne, hT, hdT, h3⟩ := ht
  have hsz : 3 < ts.size := (Array.getElem?_eq_some_iff.mp h3).1
  refine wpAny_setFlight_none he hd h1 hT hdT hsz (h _ (fun b o hb q => ?_) ?_)
  · rw [Heap.get?_update_other _ _ (Ne.symm hb)]
    exact q
  · refine ⟨oe, vs, _, _, ?_, hc, hdx, hd, h1, ne, Heap.get?_update_self _ hT (Obj.isFreed_of_fields (Obj.data_mapFields hdT _)), Obj.data_mapFields hdT _, by simp [hsz]⟩
    rw [Heap.get?_update_other _ _ ne]
    exact he

/-- the frame is noted: an exception that was just made -/
theorem note_first {base : Heap} {env : Env} {outer : List Env} {L e : Addr} {oe : Obj} {vs : Array Value} {Q : Unit → Shared → Prop}
    (hfr : A.frames = some (env :: outer)) (hl : s.heap.FunFrames base (env :: outer)) (hf : env.frame = some L) (he : s.heap.get? e = some oe) (hd : oe.data = .fields vs) (h1 : vs[1]? = some .none)
    (h : ∀ h' T, Noted (frs (env :: outer)) e T s.heap h' → FlyAt h' e T oe.cls oe.dict (rawInt L) → Q () { s with heap := h' }) : wpAny M A (noteFrame (.ref e) env) Q E s := by
  unfold noteFrame
  simp only [hf]
  refine wpAny_bind (wpAny_field he hd h1 ?_)
  rw [if_neg (by decide)]
  exact entry_x hfr hl hf he hd (Array.getElem?_eq_some_iff.mp h1).1 h
/-- .. one that comes from a callee: its last entry at T0 turns too -/
theorem note_next {base : Heap} {env : Env} {outer : List Env} {L e T0 : Addr} {cls : Value} {dct : Option Addr} {Q : Unit → Shared → Prop}
    (hfr : A.frames = some (env :: outer)) (hl : s.heap.FunFrames base (env :: outer)) (hf : env.frame = some L) (ht : Fly s.heap e T0 cls dct)
    (h : ∀ h' T, (∀ b o, b ≠ e → b ≠ T0 → b ∉ frs (env :: outer) → s.heap.get? b = some o → h'.get? b = some o) → (∀ b o, b ≠ e → b ≠ T0 → s.heap.get? b = some o → ∃ sl, h'.get? b = some { o with slots := sl }) → s.heap.objs.size ≤ T →
      FlyAt h' e T cls dct (rawInt L) → (∀ b o, s.heap.get? b = some o → ∃ o', h'.get? b = some o') → Q () { s with heap := h' }) : wpAny M A (noteFrame (.ref e) env) Q E s := by
  obtain ⟨oe, vs, oT, ts, he, rfl, rfl, hd, h1, ne, hT, hdT, h3⟩ := ht
  unfold noteFrame
  simp only [hf]
  refine wpAny_bind (wpAny_field he hd h1 ?_)
  rw [if_pos (show (Value.ref T0 != Value.none) = true from by simp)]
  refine wpAny_bind (wpAny_field hT hdT h3 ?_)
  rw [if_neg (show ¬ ((Value.none == rawInt L) = true) from by simp [rawInt])]
  refine wpAny_bind (wpAny_setField hT hdT (Array.getElem?_eq_some_iff.mp h3).1 ?_)
  have oth : ∀ b, b ≠ T0 → (s.heap.update T0 (Obj.mapFields (·.setIfInBounds 3 Value.none))).get? b = s.heap.get? b := fun b hb => Heap.get?_update_other _ _ (Ne.symm hb)
  have selfT := Heap.get?_update_self (Obj.mapFields (·.setIfInBounds 3 Value.none)) hT (Obj.isFreed_of_fields (Obj.data_mapFields hdT _))
  have nrec : ∀ b o, s.heap.get? b = some o → (∀ vs, o.data ≠ .fields vs) → b ≠ T0 := fun b o hb hnf q => by
    rw [q, hT] at hb
    cases hb
    exact hnf ts hdT
  have hl' : (s.heap.update T0 (Obj.mapFields (·.setIfInBounds 3 Value.none))).FunFrames base (env :: outer) := hl.of_keeps fun b o hb hnf => ⟨o, (oth b (nrec b o hb hnf)).trans hb, rfl⟩
  refine entry_x (s := { s with heap := s.heap.update T0 (Obj.mapFields (·.setIfInBounds 3 Value.none)) }) hfr hl' hf ((oth e (Ne.symm ne)).trans he) hd (Array.getElem?_eq_some_iff.mp h1).1 fun h' T N F => ?_
  refine h h' T (fun b o b1 b2 b3 q => N.keep b o b1 b3 ((oth b b2).trans q)) (fun b o b1 b2 q => N.slot b o b1 ((oth b b2).trans q)) (Nat.le_trans (Nat.le_of_eq (Heap.size_after_update _ _ _).symm) N.new) F fun b o q => ?_
  by_cases b1 : b = e
  · subst b1
    obtain ⟨oe', _, _, _, q', _⟩ := F
    exact ⟨oe', q'⟩
  · by_cases b2 : b = T0
    · subst b2
      obtain ⟨sl, q'⟩ := N.slot b _ b1 selfT
      exact ⟨_, q'⟩
    · obtain ⟨sl, q'⟩ := N.slot b o b1 ((oth b b2).trans q)
      exact ⟨_, q'⟩
end
end L2

namespace L2
open PySem PySem.Spec PyProof.Rows

/-- an exception lies behind a call: new, untracked, of the class cls, with the dict dct -/
noncomputable def CX1 (P : Program) (w : World) : CXT := fun outer H s E ev s' =>
  ∃ e T cls dct H', ev = .ref e ∧ s'.os = s.os ∧ AllBare s'.gens ∧ Un (frs outer) [] H H' s.heap s'.heap ∧ HOk P w H' s'.heap ∧ Fly s'.heap e T cls dct ∧
    s.heap.get? e = none ∧ s.heap.get? T = none ∧ H' e = none ∧ H' T = none ∧ E cls dct H'

section
variable {X : Cx} {pins : List (Addr × Obj)} {σ : St} {H : Hp} {s : Shared} {h' : Heap}
/-- what an exception's entries change leaves the rest as a callee must -/
theorem left_ok (I : Inv X pins σ H s) (hex : X.ex = []) (bad : List Addr) (hb : ∀ b ∈ bad, X.s₀.heap.get? b = none ∧ H b = none)
    (k1 : ∀ b o, b ∉ bad → b ∉ frs X.stack → s.heap.get? b = some o → h'.get? b = some o) (k2 : ∀ b o, b ∉ bad → s.heap.get? b = some o → ∃ sl, h'.get? b = some { o with slots := sl })
    (k3 : ∀ b o, s.heap.get? b = some o → ∃ o', h'.get? b = some o') : Un X.fs [] X.H₀ H X.s₀.heap h' ∧ HOk X.prog X.w H h' := by
  have B := I.base
  rw [hex] at B
  have nb : ∀ b o, X.s₀.heap.get? b = some o → b ∉ bad := fun b o q z => by
    rw [(hb b z).1] at q
    cases q
  have nL : ∀ b o, X.s₀.heap.get? b = some o → b ≠ X.env.locals := fun b o q => Nat.ne_of_lt (Nat.lt_of_lt_of_le (Heap.lt_size q) I.ok.above)
  have e0 : ∀ b : Addr, b ∉ ([] : List Addr) := fun b => by simp
  refine ⟨⟨fun b o q n hf _ => ?_, fun b o q n hf _ => ?_, B.free, fun b o q _ => ?_, B.tups, B.frzs, B.tbls⟩, fun a u q => ?_⟩
  · refine k1 b o (nb b o q) (fun z => ?_) (B.keep b o q n hf (e0 b))
    rcases List.mem_cons.mp (I.stkSub b z) with z | z
    · exact nL b o q z
    · exact hf z
  · obtain ⟨sl, q1⟩ := B.slot b o q n hf (e0 b)
    obtain ⟨sl', q2⟩ := k2 b _ (nb b o q) q1
    exact ⟨sl', q2⟩
  · obtain ⟨o1, q1⟩ := B.there b o q (e0 b)
    exact k3 b o1 q1
  · have tr : ∀ b v, H b = some v → b ∉ bad ∧ b ∉ frs X.stack := fun b v z => ⟨(fun y => absurd ((hb b y).2.symm.trans z) (by simp)), fun y => absurd ((I.stkFree b y).symm.trans z) (by simp)⟩
    refine (I.hok a u q).stay (fun b v hbv z => ?_) (fun _ z => z) fun _ _ z => z
    rcases hbv with rfl | hbv
    · exact k1 b v (tr b _ q).1 (tr b _ q).2 z
    · exact k1 b v (tr b _ hbv).1 (tr b _ hbv).2 z
end

section
variable {P : Program} {w : World} {K : PySem.W.Frag} {mg : Str → Option Value} {base : Heap} {N : List Str} {qual : Str} {scope : Scope} {f : Addr} {cd : Value} {A : Around} {outer : List Env} {s₀ : Shared} {H₀ : Hp} {E : XK}
noncomputable abbrev cx1 (P : Program) (w : World) (K : PySem.W.Frag) (mg : Str → Option Value) (base : Heap) (N : List Str) (qual : Str) (scope : Scope) (f : Addr) (cd : Value) (A : Around) (outer : List Env) (s₀ : Shared) (H₀ : Hp) (E : XK) : Cx :=
  cxOf (CX1 P w) P w K mg base N qual scope f cd A outer s₀ H₀ E

/-- an exception that was made in the body leaves it -/
theorem xe_made {pins : List (Addr × Obj)} {σ : St} {H : Hp} {s : Shared} {e : Addr} {oe : Obj} {vs : Array Value} (I : Inv (cx1 P w K mg base N qual scope f cd A outer s₀ H₀ E) pins σ H s)
    (he : s.heap.get? e = some oe) (hd : oe.data = .fields vs) (h1 : vs[1]? = some .none) (hn : s₀.heap.get? e = none) (hH : H e = none) (q : E oe.cls oe.dict H) : (cx1 P w K mg base N qual scope f cd A outer s₀ H₀ E).xe (.ref e) s := by
  show wpAny _ _ (leaving _ _) _ _ _
  unfold leaving
  refine wpAny_bind (note_first (base := base) (L := s₀.heap.objs.size) I.ok.frames I.stack rfl he hd h1 fun h1' T Nt F => ?_)
  refine flight_x (s := { s with heap := h1' }) F fun h2 k F2 => ?_
  have bT : s.heap.objs.size ≤ T := Nt.new
  have tn : ∀ b o, s.heap.get? b = some o → b ≠ T := fun b o z => Nat.ne_of_lt (Nat.lt_of_lt_of_le (Heap.lt_size z) bT)
  have s0T : s₀.heap.objs.size ≤ T := Nat.le_trans I.sz bT
  obtain ⟨u, hk⟩ := left_ok (h' := h2) I rfl [e] (fun b hb => by
      have z : b = e := by simpa using hb
      subst z
      exact ⟨hn, hH⟩)
    (fun b o b1 b2 z => k b o (tn b o z) (Nt.keep b o (by simpa using b1) b2 z))
    (fun b o b1 z => by
      obtain ⟨sl, z1⟩ := Nt.slot b o (by simpa using b1) z
      exact ⟨sl, k b _ (tn b o z) z1⟩)
    (fun b o z => by
      by_cases b1 : b = e
      · subst b1
        obtain ⟨oe', _, _, _, z1, _⟩ := F2
        exact ⟨oe', z1⟩
      · obtain ⟨sl, z1⟩ := Nt.slot b o b1 z
        exact ⟨_, k b _ (tn b o z) z1⟩)
  exact ⟨e, T, _, _, H, rfl, I.os, I.bare, u, hk, F2, hn, Heap.get?_none_of_le s0T, hH, I.hok.fresh bT, q⟩

/-- an exception of a callee leaves the body -/
theorem pass1 : Passes (CX1 P w) (cx1 P w K mg base N qual scope f cd A outer s₀ H₀ E) E := by
  intro pins σ H s ev s' I hc
  obtain ⟨e, T0, cls, dct, H', rfl, os, bare, un, hok, F0, hne, hnT, hHe, hHT, q⟩ := hc
  have I' : Inv (cx1 P w K mg base N qual scope f cd A outer s₀ H₀ E) pins σ H' s' := I.call' (ch := []) os un hok bare fun b z => absurd z (by simp)
  have old : ∀ b, s.heap.get? b = none → s₀.heap.get? b = none := fun b z => by
    cases q1 : s₀.heap.get? b with
    | none => rfl
    | some o =>
      obtain ⟨o', q2⟩ := I.base.there b o q1 (show b ∉ ([] : List Addr) by simp)
      rw [z] at q2
      cases q2
  show wpAny _ _ (leaving _ _) _ _ _
  unfold leaving
  refine wpAny_bind (note_next (base := base) (L := s₀.heap.objs.size) I'.ok.frames I'.stack rfl F0 fun h1' T k1 k2 bT F k3 => ?_)
  refine flight_x (s := { s' with heap := h1' }) F fun h2 k F2 => ?_
  have tn : ∀ b o, s'.heap.get? b = some o → b ≠ T := fun b o z => Nat.ne_of_lt (Nat.lt_of_lt_of_le (Heap.lt_size z) bT)
  have s0T : s₀.heap.objs.size ≤ T := Nat.le_trans I'.sz bT
  obtain ⟨u, hk⟩ := left_ok (h' := h2) I' rfl [e, T0] (fun b hb => by
      rcases List.mem_cons.mp hb with z | hb
      · subst z
        exact ⟨old b hne, hHe⟩
      · have z : b = T0 := by simpa using hb
        subst z
        exact ⟨old b hnT, hHT⟩)
    (fun b o b1 b2 z => k b o (tn b o z) (k1 b o (fun y => b1 (by simp [y])) (fun y => b1 (by simp [y])) b2 z))
    (fun b o b1 z => by
      obtain ⟨sl, z1⟩ := k2 b o (fun y => b1 (by simp [y])) (fun y => b1 (by simp [y])) z
      exact ⟨sl, k b _ (tn b o z) z1⟩)
    (fun b o z => by
      obtain ⟨o1, z1⟩ := k3 b o z
      exact ⟨o1, k b _ (tn b o z) z1⟩)
  exact ⟨e, T, cls, dct, H', rfl, I'.os, bare, u, hk, F2, old e hne, Heap.get?_none_of_le s0T, hHe, hok.fresh bT, q⟩
/-- a loop hands on what leaves the body -/
theorem own1 : PassesOwn (model P w) (cx1 P w K mg base N qual scope f cd A outer s₀ H₀ E).A (cx1 P w K mg base N qual scope f cd A outer s₀ H₀ E).env (cx1 P w K mg base N qual scope f cd A outer s₀ H₀ E).xe := PassesOwn.leaving
end
end L2

namespace L2
open PySem PySem.Spec PyProof.Rows

theorem ObjOk.there {P : Program} {w : World} {H : Hp} {h : Heap} {a : Addr} {o : HO} (x : ObjOk P w H h a o) : ∃ ob, h.get? a = some ob := by
  cases o with
  | lst xs => obtain ⟨_, _, _, _, e⟩ := x; exact ⟨_, e⟩
  | tup xs => obtain ⟨_, _, _, o, e, _⟩ := x; exact ⟨_, e⟩
  | dK kvs => obtain ⟨_, _, _, _, o, _, _, e, _⟩ := x; exact ⟨_, e⟩
  | dT kvs => obtain ⟨_, _, _, _, o, _, _, e, _⟩ := x; exact ⟨_, e⟩
  | set S n => obtain ⟨o, _, _, _, e, _⟩ := x; exact ⟨_, e⟩
  | ins C dx fs => obtain ⟨_, _, _, e, _⟩ := x; exact ⟨_, e⟩
  | own y => exact x
  | xd fs => obtain ⟨_, ⟨_, _, _, e, _⟩, _⟩ := x; exact ⟨_, e⟩
  | rng lo hi => obtain ⟨_, _, _, e⟩ := x; exact ⟨_, e⟩
  | frz ob u => obtain ⟨e, _⟩ := x; exact ⟨_, e⟩
  | tbl ps => exact ⟨_, (show h.get? a = some _ from x)⟩
  | met f y => exact ⟨_, (show h.get? a = some _ from x)⟩
  | ext φ => obtain ⟨_, e, _⟩ := x; exact e
theorem HOk.new {P : Program} {w : World} {H : Hp} {h : Heap} {a : Addr} (x : HOk P w H h) (e : h.get? a = none) : H a = none := by
  cases q : H a with
  | none => rfl
  | some u =>
    obtain ⟨o, z⟩ := (x a u q).there
    rw [e] at z
    cases z

/-- an exception that is made here reaches what the body wants -/
noncomputable def Raises (X : Cx) (E : XK) : Prop := ∀ (pins : List (Addr × Obj)) (σ : St) (H : Hp) (s : Shared) (h' : Heap) (e : Addr) (oe : Obj) (vs : Array Value), Inv X pins σ H s → (∀ b o, s.heap.get? b = some o → h'.get? b = some o) → s.heap.get? e = none →
  h'.get? e = some oe → oe.data = .fields vs → vs[1]? = some .none → E oe.cls oe.dict H → X.xe (.ref e) { s with heap := h' }

section
variable {P : Program} {w : World} {K : PySem.W.Frag} {mg : Str → Option Value} {base : Heap} {N : List Str} {qual : Str} {scope : Scope} {f : Addr} {cd : Value} {A : Around} {outer : List Env} {s₀ : Shared} {H₀ : Hp} {E : XK}
theorem raises1 : Raises (cx1 P w K mg base N qual scope f cd A outer s₀ H₀ E) E := by
  intro pins σ H s h' e oe vs I k hn he hd h1 q
  have I' : Inv (cx1 P w K mg base N qual scope f cd A outer s₀ H₀ E) pins σ H { s with heap := h' } := I.kept (t' := s.toks) k
  refine xe_made I' he hd h1 ?_ (I.hok.new hn) q
  cases q1 : s₀.heap.get? e with
  | none => rfl
  | some o =>
    obtain ⟨o', q2⟩ := I.base.there e o q1 (show e ∉ ([] : List Addr) by simp)
    rw [hn] at q2
    cases q2
end

section
variable {X : Cx} {x : Str} {C : Addr} {B newId initId : String} {bm : List Value} {np cpos pos : Pos} {E : XK} {e₀ : Expr} {rest : List Expr} {t : TA}
/-- raise C(e, ..), C an own class without an __init__ of its own -/
noncomputable def tRaise (C : Addr) (E : XK) (t : TA) : TS := fun _ σ H => t σ H fun vs H1 => vs.length ≤ sizeLine ∧ E (.ref C) none H1
theorem ps_raise (O : OwnCls x C bm newId X.mg X.base) (FB : ExcBaseFacts B newId initId bm) (hg : Gl X x) (hc : X.calm = true) (hx : Raises X E) (ha : PA X (e₀ :: rest) t)
    (he : starEach (e₀ :: rest) X.env = (false, eval e₀ X.env) :: starEach rest X.env := by rfl) (hpl : (backTo cpos (starEach rest X.env)).any (·.1) = false := by rfl) (hd : (x == ("__debug__" : Str)) = false := by decide) :
    PS X (.Raise (some (.Call (.Name x np) (e₀ :: rest) [] cpos)) none pos) (tRaise C E t) := by
  intro pins s σ H D I h
  obtain ⟨tl, N, nm, q, bs, hdct, sn, sub, ab, col, dd, k0, k1, k2, k3, k5, mN, hC, hN, hni, T⟩ := O.obj
  refine wpAny_Raise_call_subT (C := C) (nm := nm) (q := q) (N := N) (bs := bs) (bm := tl) (hdct := hdct) (sn := sn) (sub := sub) (ab := ab) (col := col) (dd := dd) (k0 := k0) (k1 := k1) (k2 := k2) (k3 := k3) (k5 := k5)
    FB (mN := mN) (T.hasType FB.hasBase) (I.ok.hd hc) (by rw [he]; exact hpl) hni (ld_glob I hg O.bound ⟨rfl, ?_⟩ hd)
  have hp := ha cpos pins s σ H _ I h
  rw [he] at hp ⊢
  refine Calls.evalArgs_plain (thn hp fun us s2 ⟨vs, H1, I1, r1, z, hE⟩ => ⟨rfl, by show us.length ≤ _; rw [← r1.length]; exact z, I1.bk _ _ hC, hN.keeps I1.bk, T.keeps I1.bk, fun h' e M => ?_⟩)
  obtain ⟨tt, he', _, _⟩ := M.there
  exact hx pins σ H1 s2 h' e _ _ I1 M.keeps M.new he' rfl rfl hE
end
end L2

namespace L2
open PySem PySem.Spec PyProof.Rows
section
variable {X : Cx} {pins : List (Addr × Obj)} {σ : St} {H H' : Hp} {s : Shared} {h' : Heap}

/-- as Inv.step, where the records that turn are such as the entry's heap had nothing at -/
theorem Inv.stepN {g' : Array GenState} {t' : Nat} {d' : Drawn} {ch : List Addr} (I : Inv X pins σ H s)
    (hch : ∀ b ∈ ch, (b ∈ X.ex ∨ X.s₀.heap.get? b = none) ∧ b ≠ X.env.locals ∧ (∀ x c, X.env.cells.lookup x = some c → c ≠ b) ∧ ∀ p ∈ X.pn ++ pins, p.1 ≠ b)
    (keep : ∀ b o, b ≠ X.env.locals → b ∉ X.fs → b ∉ ch → s.heap.get? b = some o → H b = none → h'.get? b = some o)
    (slot : ∀ b o, b ≠ X.env.locals → b ∈ X.fs → b ∉ ch → s.heap.get? b = some o → H b = none → ∃ sl, h'.get? b = some { o with slots := sl }) (free : ∀ b o, b ∉ ch → s.heap.get? b = some o → H b = none → H' b = none)
    (there : ∀ b o, b ∉ ch → s.heap.get? b = some o → ∃ o', h'.get? b = some o')
    (tups : ∀ b xs, H b = some (.tup xs) → H' b = some (.tup xs)) (frzs : ∀ b o u, H b = some (.frz o u) → H' b = some (.frz o u)) (tbls : ∀ b ps, H b = some (.tbl ps) → ∃ more, H' b = some (.tbl (ps ++ more)))
    (ns : ∀ m, s.heap.Ns X.env.locals m → h'.Ns X.env.locals m) (hok : HOk X.prog X.w H' h') (hg : AllBare g') :
    Inv X pins σ H' { s with heap := h', gens := g', drawn := d', toks := t' } := by
  have neL : ∀ b o, X.s₀.heap.get? b = some o → b ≠ X.env.locals := fun b o e => Nat.ne_of_lt (Nat.lt_of_lt_of_le (Heap.lt_size e) I.ok.above)
  have neC : ∀ b o, X.s₀.heap.get? b = some o → b ∉ X.ex → b ∉ ch := fun b o e hx hb => by
    rcases (hch b hb).1 with z | z
    · exact hx z
    · rw [z] at e
      cases e
  have cellK : ∀ x c, X.env.cells.lookup x = some c → ∀ v, s.heap.IsCell c v → h'.IsCell c v := fun x c e v ⟨o, ho, hd⟩ => by
    have nch : c ∉ ch := fun z => (hch c z).2.2.1 x c e rfl
    by_cases hc : c ∈ X.fs
    · obtain ⟨sl, q⟩ := slot c o (I.cne x c e) hc nch ho (I.freeC x c e)
      exact ⟨_, q, hd⟩
    · exact ⟨o, keep c o (I.cne x c e) hc nch ho (I.freeC x c e), hd⟩
  refine ⟨I.ok, I.os, hg, ⟨fun b o e n hb hx => ?_, fun b o e n hb hx => ?_, fun b o e n hx => ?_, fun b o e hx => ?_, fun b xs e => tups b xs (I.base.tups b xs e), fun b o xs e => frzs b o xs (I.base.frzs b o xs e), fun b ps e => ?_⟩, ?_, fun x c e => ?_, ?_, fun x c e => ?_, fun p hp => ?_, hok, I.len⟩
  · exact keep b o (neL b o e) hb (neC b o e hx) (I.base.keep b o e n hb hx) (I.base.free b o e n hx)
  · obtain ⟨sl, e1⟩ := I.base.slot b o e n hb hx
    obtain ⟨sl', e2⟩ := slot b _ (neL b o e) hb (neC b o e hx) e1 (I.base.free b o e n hx)
    exact ⟨sl', e2⟩
  · obtain ⟨o', e1⟩ := I.base.there b o e hx
    exact free b o' (neC b o e hx) e1 (I.base.free b o e n hx)
  · obtain ⟨o', e1⟩ := I.base.there b o e hx
    exact there b o' (neC b o e hx) e1
  · obtain ⟨m1, e1⟩ := I.base.tbls b ps e
    obtain ⟨m2, e2⟩ := tbls b _ e1
    exact ⟨m1 ++ m2, by rw [e2, Array.append_assoc]⟩
  · obtain ⟨m, hn, hl⟩ := I.loc
    refine ⟨m, ns m hn, fun i x v e1 e2 e3 => ?_⟩
    obtain ⟨u, r, l⟩ := hl i x v e1 e2 e3
    refine ⟨u, r, ?_⟩
    rcases l with l | ⟨k, c, e, z⟩
    · exact .inl l
    · exact .inr ⟨k, c, e, cellK x c e _ z⟩
  · obtain ⟨v, z⟩ := I.cell x c e
    exact ⟨v, cellK x c e v z⟩
  · obtain ⟨m, ⟨o, _, _, ho, _⟩, _⟩ := I.loc
    exact free _ o (fun z => (hch _ z).2.1 rfl) ho I.free
  · obtain ⟨v, o, ho, hd⟩ := I.cell x c e
    exact free c o (fun z => (hch c z).2.2.1 x c e rfl) ho (I.freeC x c e)
  · obtain ⟨e, n, ne, nf, d⟩ := I.pin p hp
    have nch : p.1 ∉ ch := fun z => (hch p.1 z).2.2.2 p hp rfl
    exact ⟨keep p.1 p.2 ne nf nch e n, free p.1 p.2 nch e n, ne, nf, d⟩

/-- a thing that the state knows nothing of is apart from the frame, the cells, the pins -/
structure Apart (X : Cx) (pins : List (Addr × Obj)) (e : Addr) : Prop where
  old : X.s₀.heap.get? e = none
  loc : e ≠ X.env.locals
  cel : ∀ x c, X.env.cells.lookup x = some c → c ≠ e
  pin : ∀ p ∈ X.pn ++ pins, p.1 ≠ e
theorem Inv.apart (I : Inv X pins σ H s) (hex : X.ex = []) {e : Addr} (hn : s.heap.get? e = none) : Apart X pins e := by
  have ne : ∀ b o, s.heap.get? b = some o → b ≠ e := fun b o q z => by
    rw [z, hn] at q
    cases q
  refine ⟨?_, ?_, fun x c q => ?_, fun p hp => ne _ _ (I.pin p hp).1⟩
  · cases q1 : X.s₀.heap.get? e with
    | none => rfl
    | some o =>
      obtain ⟨o', q2⟩ := I.base.there e o q1 (by rw [hex]; simp)
      rw [hn] at q2
      cases q2
  · obtain ⟨m, ⟨o, _, _, ho, _⟩, _⟩ := I.loc
    exact Ne.symm (ne _ _ ho)
  · obtain ⟨v, o, ho, _⟩ := I.cell x c q
    exact ne _ _ ho

/-- .. and no more -/
noncomputable def drop (H : Hp) (e : Addr) : Hp := fun b => if b = e then none else H b
theorem drop_same {H : Hp} {e : Addr} : drop H e e = none := if_pos rfl
theorem drop_ne {H : Hp} {e b : Addr} (h : b ≠ e) : drop H e b = H b := if_neg h

end
end L2

namespace L2
open PySem PySem.Spec PyProof.Rows

/-- a class of the text stands in an except -/
structure CatchC (K : PySem.W.Frag) (mg : Str → Option Value) (x : Str) (C : Addr) : Prop where
  bound : mg x = some (.ref C)
  obj : ∃ dd cd sl, K.lookup C = some ⟨.type "type", dd, .cls cd, sl⟩
  exc : PySem.W.mroIn K C (.type "BaseException") = some true
theorem excm_K {K : PySem.W.Frag} {mg : Str → Option Value} {x : Str} {prog : Program} {w : World} {A : Around} {E : Value → Shared → Prop} {s : Shared} {e C Cc : Addr} {oe : Obj} {b : Bool} {Q : Bool → Shared → Prop} (X : K.In s.heap) (hm : PySem.W.mroIn K C (.ref Cc) = some b)
    (cc : CatchC K mg x Cc) (he : s.heap.get? e = some oe) (hcls : oe.cls = .ref C) (q : Q b s) : wpAny (model prog w) A (excMatches (.ref e) (.ref Cc)) Q E s := by
  obtain ⟨dd, cd, sl, hl⟩ := cc.obj
  have L1 := PySem.W.looks_mroIn (M := model prog w) X hm
  have L2 := PySem.W.looks_mroIn (M := model prog w) X cc.exc
  have hC := X _ _ hl
  have f := tc_notTuple
  have hT : s.TypeIs (.ref Cc) "type" := ⟨_, hC, rfl⟩
  obtain ⟨hp, g, d, tk, os⟩ := s
  unfold excMatches
  repeat (first | (with_reducible refine wpAny_loadPart_at he ?_; rw [hcls]) | (with_reducible refine wpAny_loadPart_at hC ?_) | (with_reducible refine L1.here ?_) | (with_reducible refine L2.here ?_) | wp_step)
  cases b with
  | true =>
    wp_walk
    exact q
  | false =>
    wp_walk
    exact q


/-- the suite of an except -/
noncomputable abbrev Cx.sup (X : Cx) (e : Addr) : Cx := { X with A := X.A.mark (some (.ref e)), calm := false, xe := fun _ _ => False }
theorem Cx.Ok.sup {X : Cx} (ok : X.Ok) (e : Addr) : (X.sup e).Ok :=
  ⟨ok.mod, ok.kind, ok.glob, ok.blt, ok.above, ok.inj, ok.has, ok.cab, (fun z => absurd (show false = true from z) (by decide)), ok.frames, ok.stk, ok.exf, ok.bs, ok.bsz, ok.noex, ok.exfs, ok.funs, ok.frf⟩
section
variable {X : Cx} {pins : List (Addr × Obj)} {σ : St} {H : Hp} {s : Shared} {e : Addr}
theorem Inv.sup (I : Inv X pins σ H s) (e : Addr) : Inv (X.sup e) pins σ H s := ⟨I.ok.sup e, I.os, I.bare, I.base, I.loc, I.cell, I.free, I.freeC, I.pin, I.hok, I.len⟩
theorem Inv.unsup (ok : X.Ok) (I : Inv (X.sup e) pins σ H s) : Inv X pins σ H s := ⟨ok, I.os, I.bare, I.base, I.loc, I.cell, I.free, I.freeC, I.pin, I.hok, I.len⟩

/-- the record of an entry turns -/
theorem Inv.recd {T : Addr} {h' : Heap} (I : Inv X pins σ H s) (a : Apart X pins T) (hT : H T = none) (nf : T ∉ X.fs) (k : ∀ b o, b ≠ T → s.heap.get? b = some o → h'.get? b = some o) : Inv X pins σ H { s with heap := h' } := by
  have kt : ∀ b u, H b = some u → b ≠ T := fun b u q z => by
    rw [z, hT] at q
    cases q
  refine I.stepN (g' := s.gens) (d' := s.drawn) (t' := s.toks) (ch := [T]) (fun b hb => ?_) (fun b o _ _ hc q _ => k b o (by simpa using hc) q) (fun b o _ hf hc q _ => ⟨o.slots, k b o (by simpa using hc) q⟩) (fun b o _ _ n => n)
    (fun b o hc q => ⟨o, k b o (by simpa using hc) q⟩) (fun _ _ q => q) (fun _ _ _ q => q) (fun b ps q => ⟨#[], by rw [q]; simp⟩) (fun m hm => ?_) (fun b u q => ?_) I.bare
  · have z : b = T := by simpa using hb
    subst z
    exact ⟨.inr a.old, a.loc, a.cel, a.pin⟩
  · obtain ⟨o, es, ep, ho, r⟩ := hm
    exact ⟨o, es, ep, k _ o (Ne.symm a.loc) ho, r⟩
  · refine (I.hok b u q).stay (fun c v hc z => k c v ?_ z) (fun _ z => z) fun _ _ z => z
    rcases hc with rfl | hc
    · exact kt c u q
    · exact kt c _ hc

/-- an exception of a callee is looked at: where it lies then -/
theorem catch_core {M : Model} {E0 : Value → Shared → Prop} {E : XK} {ev : Value} {s' : Shared} {Q : Shared → Prop} (hst : X.stack = X.env :: X.outer) (hfr : X.env.frame = some X.env.locals) (hex : X.ex = []) (I : Inv X pins σ H s)
    (hc : CX1 X.prog X.w X.stack H s E ev s')
    (k : ∀ e T cls dct H' s3, ev = .ref e → E cls dct H' → H' e = none → H' T = none → Apart X pins e → Apart X pins T → T ∉ X.fs → Inv X pins σ H' s3 → Fly s3.heap e T cls dct → Q s3) :
    wpAny M X.A (noteFrame ev X.env) (fun _ s2 => wpAny M X.A (setFlight ev none) (fun _ s3 => Q s3) E0 s2) E0 s' := by
  obtain ⟨e, T0, cls, dct, H', rfl, os, bare, un, hok, F0, hne, hnT, hHe, hHT, q⟩ := hc
  have I' : Inv X pins σ H' s' := I.call' (ch := []) os un hok bare fun b z => absurd z (by simp)
  have ae := I.apart hex hne
  have aT0 := I.apart hex hnT
  have hfr' : X.A.frames = some (X.env :: X.outer) := by rw [I.ok.frames, hst]
  have hst' : s'.heap.FunFrames X.base (X.env :: X.outer) := by have z := I'.stack; rwa [hst] at z
  have nfs : ∀ b, b ≠ X.env.locals → b ∉ X.fs → b ∉ frs (X.env :: X.outer) := fun b h1 h2 z => by
    unfold frs at z
    rw [List.filterMap_cons, hfr] at z
    rcases List.mem_cons.mp z with z | z
    · exact h1 z
    · exact h2 z
  refine note_next (base := X.base) (L := X.env.locals) hfr' hst' hfr F0 fun h1 T k1 k2 bT F1 k3 => ?_
  refine flight_x (s := { s' with heap := h1 }) F1 fun h2 k4 F2 => ?_
  have tn : ∀ b o, s'.heap.get? b = some o → b ≠ T := fun b o z => Nat.ne_of_lt (Nat.lt_of_lt_of_le (Heap.lt_size z) bT)
  have HT : H' T = none := hok.fresh bT
  have aT := I'.apart hex (Heap.get?_none_of_le bT)
  have tr : ∀ b u, H' b = some u → b ≠ e ∧ b ≠ T0 ∧ b ∉ frs (X.env :: X.outer) := fun b u z => ⟨(fun y => absurd ((congrArg H' y).symm.trans z) (by rw [hHe]; simp)), (fun y => absurd ((congrArg H' y).symm.trans z) (by rw [hHT]; simp)), fun y => absurd ((I'.stkFree b (by rw [hst]; exact y)).symm.trans z) (by simp)⟩
  refine k e T cls dct H' { s' with heap := h2 } rfl q hHe HT ae aT (I'.nofs bT) ?_ F2
  refine I'.stepN (g' := s'.gens) (d' := s'.drawn) (t' := s'.toks) (ch := [e, T0]) (fun b hb => ?_) (fun b o hL hf hc z _ => k4 b o (tn b o z) (k1 b o (fun y => hc (by simp [y])) (fun y => hc (by simp [y])) (nfs b hL hf) z))
    (fun b o _ _ hc z _ => by
      obtain ⟨sl, z1⟩ := k2 b o (fun y => hc (by simp [y])) (fun y => hc (by simp [y])) z
      exact ⟨sl, k4 b _ (tn b o z) z1⟩) (fun _ _ _ _ n => n)
    (fun b o _ z => by
      obtain ⟨o1, z1⟩ := k3 b o z
      exact ⟨o1, k4 b _ (tn b o z) z1⟩) (fun _ _ z => z) (fun _ _ _ z => z) (fun b ps z => ⟨#[], by rw [z]; simp⟩) (fun m hm => ?_) (fun b u z => ?_) bare
  · rcases List.mem_cons.mp hb with z | hb
    · subst z
      exact ⟨.inr ae.old, ae.loc, ae.cel, ae.pin⟩
    · have z : b = T0 := by simpa using hb
      subst z
      exact ⟨.inr aT0.old, aT0.loc, aT0.cel, aT0.pin⟩
  · obtain ⟨o, es, ep, ho, r⟩ := hm
    obtain ⟨sl, z1⟩ := k2 _ o (Ne.symm ae.loc) (Ne.symm aT0.loc) ho
    exact ⟨_, es, ep, k4 _ _ (tn _ o ho) z1, r⟩
  · refine (I'.hok b u z).stay (fun c v hc y => ?_) (fun _ y => y) fun _ _ y => y
    have t3 : c ≠ e ∧ c ≠ T0 ∧ c ∉ frs (X.env :: X.outer) := by
      rcases hc with rfl | hc
      · exact tr c u z
      · exact tr c _ hc
    exact k4 c v (tn c v y) (k1 c v t3.1 t3.2.1 t3.2.2 y)

/-- .. without a name -/
theorem suite_bare {Cc e T : Addr} {cls : Value} {dct : Option Addr} {s3 : Shared} {D : Ends} {cx : Str} {np hpos : Pos} {b₀ : Stmt} {suite : List Stmt} {rest : List ExceptHandler} {ts : TS} (cc : CatchC X.K X.mg cx Cc) (hg : Gl X cx)
    (hs : PSs (X.sup e) (b₀ :: suite) ts) (hm : ∃ C, cls = .ref C ∧ PySem.W.mroIn X.K C (.ref Cc) = some true)
    (hH : H e = none) (hT : H T = none) (ae : Apart X pins e) (aT : Apart X pins T) (nT : T ∉ X.fs) (I : Inv X pins σ H s3) (F : Fly s3.heap e T cls dct)
    (h : ts D σ H) (hd : (cx == ("__debug__" : Str)) = false := by decide) :
    wpAny (model X.prog X.w) X.A (handleBy (.ref e) X.env (.ExceptHandler (some (.Name cx np)) none (b₀ :: suite) hpos :: rest)) (SP X pins D) X.xe s3 := by
  obtain ⟨C, rfl, hmro⟩ := hm
  obtain ⟨oe, vs, oT, ts', he, hcl, hdx, hdt, h1, ne, hoT, hdT, h3⟩ := id F
  have Is := I.sup e
  refine wpAny_handleBy_cons (codeAny_handlers_test (ld_glob (X := X.sup e) Is hg cc.bound ?_ hd)) (by intro q; cases q)
  refine excm_K I.kIn hmro cc he hcl ?_
  refine codeAny_handlers_suite (flight_x F fun h' k' F' => ?_)
  have I1 : Inv X pins σ H { s3 with heap := h' } := I.recd aT hT nT k'
  refine wpAny_mono (hs pins _ _ _ _ (I1.sup e) h) (fun f s5 q => ?_) fun _ _ z => False.elim z
  cases f with
  | next => obtain ⟨σ5, H5, I5, q5⟩ := q; exact ⟨_, H5, I5.unsup I.ok, q5⟩
  | brk => obtain ⟨σ5, H5, I5, q5⟩ := q; exact ⟨_, H5, I5.unsup I.ok, q5⟩
  | cont => obtain ⟨σ5, H5, I5, q5⟩ := q; exact ⟨_, H5, I5.unsup I.ok, q5⟩
  | ret u => obtain ⟨v5, σ5, H5, I5, r5, q5⟩ := q; exact ⟨v5, _, H5, I5.unsup I.ok, r5, q5⟩
end
end L2

namespace L2
open PySem PySem.Spec PyProof.Rows

/-- an expression whose exceptions come from one callee; E: what is wanted of them -/
noncomputable def PX (X : Cx) (e : Expr) (te : XK → TE) : Prop :=
  ∀ (pins : List (Addr × Obj)) (s : Shared) (σ : St) (H : Hp) (Q : VK) (E : XK) (W : Value → Shared → Prop), Inv X pins σ H s → te E σ H Q →
    (∀ s1 H1 ev s', Inv X pins σ H1 s1 → CX1 X.prog X.w X.stack H1 s1 E ev s' → W ev s') → wpAny (model X.prog X.w) X.A (eval e X.env) (EP X pins σ Q) W s
section
variable {X : Cx} {k : Nat} {f C : Addr} {fd : FuncData} {ps : List Str} {sp : Sp} {dvs : List V} {ds : List Value} {x m : Str} {p pos apos epos cpos : Pos} {e o : Expr} {es : List Expr} {ta : TE} {t : TA}
theorem run_fnW {W : Value → Shared → Prop} {E : XK} {pins : List (Addr × Obj)} {σ : St} {H : Hp} {s : Shared} {Q : VK} {us : List Value} {vs : List V} (F : FnOk X.prog X.w X.K X.mg X.base (CX1 X.prog X.w) k f fd ps sp) (hr : Room k X.A) (hb : Binds X.K fd ps ds) (hd : Vals dvs ds)
    (I : Inv X pins σ H s) (r : Vals vs us) (h : sp (vs ++ dvs) H Q E) (hx : ∀ ev s', CX1 X.prog X.w X.stack H s E ev s' → W ev s') : wpAny (model X.prog X.w) X.A (call (.ref f) us) (EP X pins σ Q) W s := by
  have r2 : Vals (vs ++ dvs) (us ++ ds) := r.append hd
  have hl : (us ++ ds).length = ps.length := by rw [← r2.length]; exact F.len _ _ _ _ h
  refine wpAny_call (codeAny_mono (F.run X.A X.stack s H ⟨us, []⟩ (us ++ ds) (vs ++ dvs) Q E hr I.env0 (hb s us I.kIn hl) r2 h) fun r s' hq => ?_)
  cases r with
  | error ev => exact hx ev s' hq
  | ok fl =>
    cases fl with
    | ret u => exact I.after hq
    | next => exact False.elim hq
    | brk => exact False.elim hq
    | cont => exact False.elim hq
/-- f(e, ..) -/
theorem px_call (F : FnOk X.prog X.w X.K X.mg X.base (CX1 X.prog X.w) k f fd ps sp) (hr : Room k X.A) (hg : Gl X x) (hm : X.mg x = some (.ref f)) (hk : PySem.W.keepIn X.K (.ref f) = true) (hb : Binds X.K fd ps ds) (hd : Vals dvs ds)
    (ha : ∀ W, PA (X.wish W) (e :: es) t) (hdb : (x == ("__debug__" : Str)) = false := by decide) (he : starEach (e :: es) X.env = (false, eval e X.env) :: starEach es X.env := by rfl) (hpl : (backTo pos (starEach es X.env)).any (·.1) = false := by rfl) :
    PX X (.Call (.Name x p) (e :: es) [] pos) (fun E => tCall sp dvs E t) := by
  intro pins s σ H Q E W I h hx
  refine wpAny_Call_Name_kw (ld_glob I hg hm ?_ hdb)
  refine PySem.W.callWith_K (h₀ := X.base) I.ok.mod.kin hk (thn (ha W pos pins s σ H _ (I.wish W) h) fun us s1 ⟨vs, H1, I1, r, q⟩ => ⟨I1.kIn, ?_⟩) he hpl
  exact run_fnW F hr hb hd I1.unwish r q fun ev s' z => hx s1 H1 ev s' I1.unwish z

/-! ### try: one call; one except -/
variable {te : XK → TE} {cx n : Str} {np hpos tpos : Pos} {i : Nat} {b₀ : Stmt} {suite : List Stmt} {ts : TS} {Cc : Addr} {call : Expr}
noncomputable def tTryBare (K : PySem.W.Frag) (Cc : Addr) (te : XK → TE) (ts : TS) : TS := fun D σ H => te (fun cls dct H' => (∃ C, cls = .ref C ∧ PySem.W.mroIn K C (.ref Cc) = some true) ∧ ts D σ H') σ H fun _ H1 => D.nx σ H1
theorem body_one {W : Value → Shared → Prop} {Q : Flow → Shared → Prop} {s : Shared} {pins : List (Addr × Obj)} {σ : St} {Q' : VK} (hq : X.env.scope.kind = .function) (h : wpAny (model X.prog X.w) X.A (eval call X.env) (EP X pins σ Q') W s) (k : ∀ s' v H', Inv X pins σ H' s' → Q' v H' → Q .next s')
    (hs : swapsWith call none epos.line X.env = pure false := by rfl) : wpAny (model X.prog X.w) X.A (execs [.Expr call epos] X.env) Q W s := by
  refine wpAny_execs_cons (wpAny_Expr_any (thn h fun v s1 ⟨x, H1, I1, r1, q1⟩ => ?_) (by simp [interactive, hq]) hs)
  exact wpAny_execs_nil (k s1 x H1 I1 q1)
theorem ps_tryBare (hst : X.stack = X.env :: X.outer) (hfr : X.env.frame = some X.env.locals) (hex : X.ex = []) (hc : PX X call te) (cc : CatchC X.K X.mg cx Cc) (hg : Gl X cx)
    (hs : ∀ e, PSs (X.sup e) (b₀ :: suite) ts) (hd : (cx == ("__debug__" : Str)) = false := by decide) (hsw : swapsWith call none epos.line X.env = pure false := by rfl) :
    PS X (.Try [.Expr call epos] [.ExceptHandler (some (.Name cx np)) none (b₀ :: suite) hpos] [] [] tpos) (tTryBare X.K Cc te ts) := by
  intro pins s σ H D I h
  refine wpAny_Try_except (body_one I.ok.kind (hc pins s σ H _ _ _ I h fun s1 H1 ev s' I1 z => ?_) (fun s' v H' I' q => ?_) hsw)
  · refine catch_core hst hfr hex I1 z fun e T cls dct H' s3 ee q hHe hHT ae aT nT I3 F3 => ?_
    subst ee
    exact suite_bare cc hg (hs e) q.1 hHe hHT ae aT nT I3 F3 q.2 hd
  · exact wpAny_execs_nil ⟨σ, H', I', q⟩
end

section
variable {P : Program} {w : World} {K : PySem.W.Frag} {mg : Str → Option Value} {base : Heap}
/-- THE RULE for a def that may raise -/
theorem Fun.ok1 {x qual : Str} {st : Stmt} {f : Addr} {fd : FuncData} {N ps : List Str} {k : Nat} {sp : Sp} (F : Fun K x qual st f fd) (S : FnScope N ps (defScope st)) (len : ∀ vs H Q E, sp vs H Q E → vs.length = ps.length)
    (hbody : ∀ (cdv : Value) (A : Around) (outer : List Env) (s : Shared) (H : Hp) (vs : List V) (Q : VK) (E : XK), Room k (A.deeper (envOfC qual (defScope st) s.heap.objs.size f cdv)) → sp vs H Q E →
      ∃ t, PSs (cx1 P w K mg base N qual (defScope st) f cdv A outer s H E) (defBody st) t ∧ t { nx := fun _ H' => Q .non H', rt := Q } (start N vs) H) : FnOk P w K mg base (CX1 P w) (k + 1) f fd ps sp := by
  obtain ⟨oc, od, kV, doc, pm, an, cdv, ct, osl, rfl, lk, hcd⟩ := F.ex
  exact fn_of lk hcd S len fun A outer s H vs Q E hr hsp => hbody cdv A outer s H vs Q E hr hsp
end
end L2

set_option maxHeartbeats 4000000
namespace L2
open PySem PySem.Spec PyProof.Rows
open Builtin Builtin.ObjectAttr

section
variable {prog : Program} {w : World} {A : Around} {E : Value → Shared → Prop} {h : Heap} {g : Array GenState} {d : Drawn} {t : Nat} {os : OsState}
variable {nm q : Str} {C N x : Addr} {bs : List Value} {sn : List Str} {sub : List Value} {ab : Bool} {col : Option Bool} {dd : Option Addr} {k0 k1 k2 k3 k5 : Option Value} {newId : String}
  {mN mA : Str → Option Value} {name : Str} {v : Value}


end
end L2

set_option maxHeartbeats 1000000
namespace L2
open PySem PySem.Spec PyProof.Rows
open Builtin Builtin.ObjectAttr

section
variable {prog : Program} {w : World} {A : Around} {E : Value → Shared → Prop} {h : Heap} {g : Array GenState} {d : Drawn} {t : Nat} {os : OsState}
variable {nm q : Str} {C N x : Addr} {bs : List Value} {sn : List Str} {sub : List Value} {ab : Bool} {col : Option Bool} {dd : Option Addr} {k0 k1 k2 k3 k5 : Option Value} {newId : String}
  {mN mA : Str → Option Value} {name : Str} {v : Value}

end
end L2

/-! COMPREHENSIONS over the hand layer: a list of one for, with tests; what the block captures. -/
namespace L2
open PySem PySem.Spec PyProof.Rows

section
variable {prog : Program} {w : World} {A : Around} {R : Result → Shared → Prop} {s : Shared}
theorem comp_loop {elt target iter : Expr} {ifs : List Expr} {scope : Scope} {pos : Pos} {it acc : Value} {env : Env} (I : Nat → Shared → Prop)
    (turn : ∀ n s, I n s → wpAny (model prog w) A (pyNext it) (fun r s1 => match r with
      | none => R (.ok .next) s1
      | some v => wpAny (model prog w) A (letOwnedTupleGo target it v) (fun _ s1' => wpAny (model prog w) A (assign target env v) (fun _ s2 =>
          wpAny (model prog w) A (forIn ifs true fun c r => if r = true then do let ok ← isTrue c env (eval c env); pure (ForInStep.yield ok) else pure (ForInStep.yield r)) (fun ok s3 =>
            if ok = true then wpAny (model prog w) A (eval elt env) (fun x s4 =>
              wpAny (model prog w) A (call (.builtin "list.append") [acc, x]) (fun _ s5 => ∃ m, m < n ∧ I m s5) (notedBy (model prog w) A env fun e s' => R (.error e) s') s4) (notedBy (model prog w) A env fun e s' => R (.error e) s') s3
            else ∃ m, m < n ∧ I m s3) (notedBy (model prog w) A env fun e s' => R (.error e) s') s2) (notedBy (model prog w) A env fun e s' => R (.error e) s') s1') (notedBy (model prog w) A env fun e s' => R (.error e) s') s1) (notedBy (model prog w) A env fun e s' => R (.error e) s') s)
    (n : Nat) (h : I n s) : codeAny (model prog w) A (.compLoop (.ListComp elt [⟨target, iter, ifs, 0⟩] scope pos) 0 it acc env) R s := by
  refine codeAny_loop rfl I (fun n s hI => ?_) n h
  show wpAny _ A ((compTurn (.ListComp elt [⟨target, iter, ifs, 0⟩] scope pos) 0 it acc env).onRaise (fun x => do noteFrame x env; theTreesLotGoes x)) _ _ s
  refine wpAny_noted ?_
  rw [compTurn_list]
  refine wpAny_bind (wpAny_standAt (wpAny_bind (thn (turn n s hI) fun r s1 h1 => ?_)))
  cases r with
  | none => exact wpAny_pure h1
  | some v =>
    refine wpAny_bind (thn h1 fun _ s1' h1' => wpAny_bind (thn h1' fun _ s2 h2 => wpAny_bind (thn h2 fun ok s3 h3 => ?_)))
    cases ok with
    | false => exact wpAny_pure ⟨rfl, h3⟩
    | true => exact wpAny_bind (wpAny_bind (thn h3 fun x s4 h4 => wpAny_bind (thn h4 fun _ s5 h5 => wpAny_pure (wpAny_pure ⟨rfl, h5⟩))))
end

/-- the tests of a comprehension, from the left -/
noncomputable def PIfs (X : Cx) (ifs : List Expr) (t : TT) : Prop :=
  ∀ (pins : List (Addr × Obj)) (s : Shared) (σ : St) (H : Hp) (Q : Bool → Hp → Prop), Inv X pins σ H s → t σ H Q →
    wpAny (model X.prog X.w) X.A (forIn ifs true fun c r => if r = true then do let ok ← isTrue c X.env (eval c X.env); pure (ForInStep.yield ok) else pure (ForInStep.yield r)) (TP X pins σ Q) X.xe s
noncomputable def tNoIf : TT := fun _ H Q => Q true H
theorem pifs_nil {X : Cx} : PIfs X [] tNoIf := by
  intro pins s σ H Q I h
  exact wpAny_pure ⟨H, I, h⟩

section
variable {X : Cx} {pins : List (Addr × Obj)} {σ : St} {H : Hp} {s : Shared}
theorem closure_go (env : Env) : ∀ (names : List (Str × NameKind)) (acc : List (Str × Addr)), (∀ y ∈ names, y.2 = .free → ∃ c, env.cells.lookup y.1 = some c) → (∀ x c, acc.lookup x = some c → env.cells.lookup x = some c) →
    ∃ cl, (forIn names acc fun (x : Str × NameKind) (r : List (Str × Addr)) => (match x with | (name, kind) => if (kind == NameKind.free) = true then do let a ← cellOf env name; pure (ForInStep.yield ((name, a) :: r)) else pure (ForInStep.yield r) : Sem (ForInStep (List (Str × Addr))))) = pure cl ∧
      (∀ x c, cl.lookup x = some c → env.cells.lookup x = some c) ∧ (∀ x c, acc.lookup x = some c → ∃ c', cl.lookup x = some c') ∧ ∀ y ∈ names, y.2 = .free → ∃ c, cl.lookup y.1 = some c
  | [], acc, _, h2 => ⟨acc, rfl, h2, fun x c e => ⟨c, e⟩, fun y hy => by simp at hy⟩
  | (n, k) :: r, acc, h1, h2 => by
    rw [List.forIn_cons]
    by_cases hk : k = .free
    · subst hk
      obtain ⟨c, hc⟩ := h1 (n, .free) List.mem_cons_self rfl
      obtain ⟨cl, e1, e2, e3, e4⟩ := closure_go env r ((n, c) :: acc) (fun y hy => h1 y (List.mem_cons_of_mem _ hy)) (fun x c' e => by
        rw [List.lookup_cons] at e
        cases hx : x == n with
        | true =>
          rw [hx] at e
          have : x = n := by simpa using hx
          subst this
          cases e
          exact hc
        | false =>
          rw [hx] at e
          exact h2 x c' e)
      refine ⟨cl, ?_, e2, fun x c' e => ?_, fun y hy hf => ?_⟩
      · have hcell : cellOf env n = pure c := by simp only [cellOf, hc]
        simp only [beq_self_eq_true, if_true, hcell, pure_bind]
        exact e1
      · cases hx : x == n with
        | true => exact e3 x c (by rw [List.lookup_cons, hx])
        | false => exact e3 x c' (by rw [List.lookup_cons, hx]; exact e)
      · rcases List.mem_cons.mp hy with rfl | hy
        · exact e3 n c (by rw [List.lookup_cons]; simp)
        · exact e4 y hy hf
    · obtain ⟨cl, e1, e2, e3, e4⟩ := closure_go env r acc (fun y hy => h1 y (List.mem_cons_of_mem _ hy)) h2
      refine ⟨cl, ?_, e2, e3, fun y hy hf => ?_⟩
      · have hb : (k == NameKind.free) = false := by simpa using hk
        simp only [hb, Bool.false_eq_true, if_false, pure_bind]
        exact e1
      · rcases List.mem_cons.mp hy with rfl | hy
        · exact absurd hf hk
        · exact e4 y hy hf
theorem closure_of {env : Env} {scope : Scope} (h : ∀ y ∈ scope.names, y.2 = .free → ∃ c, env.cells.lookup y.1 = some c) :
    ∃ cl, closureFor scope env = pure cl ∧ (∀ x c, cl.lookup x = some c → env.cells.lookup x = some c) ∧ ∀ y ∈ scope.names, y.2 = .free → ∃ c, cl.lookup y.1 = some c := by
  obtain ⟨cl, e1, e2, _, e4⟩ := closure_go env scope.names [] h (fun x c e => by simp at e)
  refine ⟨cl, ?_, e2, e4⟩
  unfold closureFor
  show (forIn scope.names [] _ >>= fun r => pure r) = pure cl
  rw [show ∀ m : Sem (List (Str × Addr)), (m >>= fun r => pure r) = m from fun m => bind_pure m]
  exact e1
end
end L2

namespace L2
open PySem PySem.Spec PyProof.Rows

/-- a comprehension's block: its own names are put into a new map at C, the names around are cells -/
noncomputable def Cx.blk (X : Cx) (scope : Scope) (N : List Str) (cl : List (Str × Addr)) (C : Addr) (s : Shared) (H : Hp) (fp : List Addr) (pins : List (Addr × Obj)) : Cx where
  prog := X.prog
  w := X.w
  K := X.K
  mg := X.mg
  base := X.base
  A := X.A
  N := N
  s₀ := s
  H₀ := H
  env := compEnvC scope cl C X.env
  outer := X.stack
  stack := X.stack
  ex := fp
  fn := fun _ => false
  calm := X.calm
  pn := X.pn ++ pins
  xe := fun _ _ => False

/-- k names of its own, and those around in the slots at is -/
noncomputable def capsOf (k : Nat) (is : List Nat) (σ : St) : St := List.replicate k none ++ is.map fun i => (σ[i]?).join

theorem lookup_relabel {env : Env} : ∀ {names : List (Str × NameKind)} {x : Str} {k : NameKind},
    (names.map fun (n, k) => if (k == NameKind.free && env.scope.kind == .function && env.kindOf n == some .cell) then (n, NameKind.cell) else (n, k)).lookup x = some k → ∃ k0, (x, k0) ∈ names ∧ (k0 = k ∨ k0 = .free)
  | [], _, _, h => by simp at h
  | (n, k0) :: r, x, k, h => by
    rw [List.map_cons] at h
    have st : ∃ k1, (if (k0 == NameKind.free && env.scope.kind == .function && env.kindOf n == some .cell) = true then (n, NameKind.cell) else (n, k0)) = (n, k1) ∧ (k1 = k0 ∨ k0 = .free) := by
      split
      · rename_i hc
        refine ⟨_, rfl, .inr ?_⟩
        simp only [Bool.and_eq_true, beq_iff_eq] at hc
        exact hc.1.1
      · exact ⟨_, rfl, .inl rfl⟩
    obtain ⟨k1, e1, e2⟩ := st
    simp only at h
    rw [e1, List.lookup_cons] at h
    cases hx : x == n with
    | true =>
      rw [hx] at h
      have : x = n := by simpa using hx
      subst this
      cases h
      refine ⟨k0, List.mem_cons_self, ?_⟩
      rcases e2 with e2 | e2
      · exact .inl e2.symm
      · exact .inr e2
    | false =>
      rw [hx] at h
      obtain ⟨k2, m, z⟩ := lookup_relabel (env := env) (names := r) h
      exact ⟨k2, List.mem_cons_of_mem _ m, z⟩

/-- what a comprehension's scope must be, as it lies in the text -/
structure BlkScope (X : Cx) (scope : Scope) (own capn : List Str) (capI : List Nat) : Prop where
  kind : scope.kind = .function
  cell : ∀ y ∈ scope.names, y.2 ≠ .cell
  names : ∀ y ∈ scope.names, y.2 = .local → scope.names.lookup y.1 = some .local
  free : ∀ y ∈ scope.names, y.2 = .free → X.env.scope.names.lookup y.1 = some .cell
  caps : capI.map (fun i => X.N[i]?) = capn.map some
  capc : ∀ y ∈ capn, X.env.scope.names.lookup y = some .cell ∧ (relabel scope X.env).names.lookup y = some .cell

section
variable {X : Cx} {pins : List (Addr × Obj)} {σ : St} {H : Hp} {s : Shared}
/-- at the block's beginning -/
theorem blk_start {scope : Scope} {own capn : List Str} {capI : List Nat} {cl : List (Str × Addr)} {fp : List Addr} {h' : Heap} {t' : Nat} (B : BlkScope X scope own capn capI) (I : Inv X pins σ H s) (hf : ∀ b ∈ fp, FpOk X pins H b) (ho : ∀ b ∈ fp, ∃ o, s.heap.get? b = some o)
    (hcl : ∀ x c, cl.lookup x = some c → X.env.cells.lookup x = some c) (hcf : ∀ y ∈ scope.names, y.2 = .free → ∃ c, cl.lookup y.1 = some c)
    (hn : h'.Ns s.heap.objs.size (fun _ => none)) (hk : ∀ b o, s.heap.get? b = some o → h'.get? b = some o) :
    Inv (X.blk scope (own ++ capn) cl s.heap.objs.size s H fp pins) [] (capsOf own.length capI σ) H { s with heap := h', toks := t' } := by
  have lt : ∀ b o, s.heap.get? b = some o → b ≠ s.heap.objs.size := fun b o e => Nat.ne_of_lt (Heap.lt_size e)
  have hkind : ∀ x, ((relabel scope X.env).names.lookup x = some .cell ∨ (relabel scope X.env).names.lookup x = some .free) → ∃ c, cl.lookup x = some c := fun x hx => by
    have z : ∃ k, (k = .cell ∨ k = .free) ∧ (relabel scope X.env).names.lookup x = some k := by
      rcases hx with hx | hx
      · exact ⟨_, .inl rfl, hx⟩
      · exact ⟨_, .inr rfl, hx⟩
    obtain ⟨k, hk, hx⟩ := z
    obtain ⟨k0, m, z⟩ := lookup_relabel (env := X.env) hx
    have : k0 = .free := by
      rcases z with z | z
      · rcases hk with hk | hk
        · exact absurd (z.trans hk) (B.cell _ m)
        · exact z.trans hk
      · exact z
    exact hcf _ m this
  have nfs : ∀ b, b ≠ X.env.locals → b ∉ X.fs → b ∉ frs X.stack := fun b h1 h2 z => by
    rcases List.mem_cons.mp (I.stkSub b z) with z | z
    · exact h1 z
    · exact h2 z
  have cellAt : ∀ x c, cl.lookup x = some c → ∃ v o, s.heap.get? c = some o ∧ o.data = .cell v := fun x c e => by
    obtain ⟨v, o, ho, hd⟩ := I.cell x c (hcl x c e)
    exact ⟨v, o, ho, hd⟩
  have ok : (X.blk scope (own ++ capn) cl s.heap.objs.size s H fp pins).Ok := by
    refine ⟨I.ok.mod, B.kind, I.ok.glob, I.ok.blt, Nat.le_refl _, fun x y c e1 e2 => I.ok.inj x y c (hcl x c e1) (hcl y c e2), fun x hx => hkind x hx, (fun x c e => absurd (show false = true from e) (by decide)), I.ok.hd, I.ok.frames, .inl rfl, fun b hb => ?_, I.bs, Nat.le_trans I.ok.bsz I.sz, fun b o e hb => ?_, fun b hb => ?_, I.stack, fun b hb => I.stkFree b hb⟩
    · obtain ⟨o, e⟩ := ho b hb
      exact ⟨lt b o e, fun x c ec => (hf b hb).2.2.2.2.1 x c (hcl x c ec)⟩
    · rcases (hf b hb).2.2.2.1 with z | z
      · exact I.ok.noex b o e z
      · exact absurd (Nat.lt_of_lt_of_le (Heap.lt_size (I.ok.bs b o e).1) z) (Nat.lt_irrefl _)
    · exact nfs b (hf b hb).2.1 (hf b hb).2.2.1
  refine ⟨ok, rfl, I.bare, Un.kept hk, ⟨_, hn, fun i x v e1 e2 e3 => ?_⟩, fun x c e => ?_, I.hok.fresh (Nat.le_refl _), fun x c e => I.freeC x c (hcl x c e), fun p hp => ?_, I.hok.kept hk, ?_⟩
  · unfold capsOf at e2
    have hi : own.length ≤ i := by
      by_cases h : own.length ≤ i
      · exact h
      · rw [List.getElem?_append_left (by simpa using h), List.getElem?_replicate] at e2
        split at e2 <;> cases e2
    rw [List.getElem?_append_right (by simpa using hi), List.length_replicate, List.getElem?_map] at e2
    have e1' : (own ++ capn)[i]? = some x := e1
    rw [List.getElem?_append_right hi] at e1'
    cases hc : capI[i - own.length]? with
    | none => rw [hc] at e2; cases e2
    | some j =>
      rw [hc] at e2
      have e4 : (σ[j]?).join = some v := by simpa using e2
      have e5 : σ[j]? = some (some v) := by
        cases q : σ[j]? with
        | none => rw [q] at e4; cases e4
        | some o => rw [q] at e4; cases o with | none => cases e4 | some v' => cases e4; rfl
      have e6 : X.N[j]? = some x := by
        have z := congrArg (fun l => l[i - own.length]?) B.caps
        simp only [List.getElem?_map, hc, e1', Option.map_some] at z
        exact Option.some.inj z
      have cx := B.capc x (List.mem_of_getElem? e1')
      obtain ⟨m, hm, hl⟩ := I.loc
      obtain ⟨u, r, l⟩ := hl j x v e6 e5 (.inr (.inl cx.1))
      refine ⟨u, r, .inr ?_⟩
      obtain ⟨c', hc'⟩ := hkind x (.inl cx.2)
      have hc2 := hcl x c' hc'
      rcases l with ⟨k, _⟩ | ⟨_, c, ec, o, hoc, hdc⟩
      · have k' : X.env.scope.names.lookup x = some .local := k
        rw [cx.1] at k'
        cases k'
      · rw [hc2] at ec
        cases ec
        exact ⟨.inl cx.2, c', hc', o, hk _ _ hoc, hdc⟩
  · obtain ⟨v, o, hoc, hd⟩ := cellAt x c e
    exact ⟨v, o, hk _ _ hoc, hd⟩
  · have hp' : p ∈ X.pn ++ pins := by
      have z : p ∈ (X.pn ++ pins) ++ [] := hp
      simpa using z
    obtain ⟨e, n, ne, nf, d⟩ := I.pin p hp'
    exact ⟨hk _ _ e, n, lt _ _ e, nfs _ ne nf, d⟩
  · show (List.replicate own.length none ++ capI.map _).length = (own ++ capn).length
    have z := congrArg List.length B.caps
    simp only [List.length_map] at z
    simp [z]
end
end L2

namespace L2
open PySem PySem.Spec PyProof.Rows

/-- [elt for target in iter if ..]: W is the invariant, by the turn and a measure, over the block's names, the items so far, the heap -/
noncomputable def tLC (wi : TI) (k : Nat) (capI : List Nat) (g : TG) (tt : TT) (te : TE) : TE := fun σ H Q => wi σ H fun J H1 => ∀ D, H1 D = none → ∃ W : Nat → Nat → St → List V → Hp → Prop, (∃ m, W 0 m (capsOf k capI σ) [] (upd H1 D (.lst []))) ∧
  ∀ i m σ' acc H, W i m σ' acc H → (J.stop i H ∧ Q (.ref D) H) ∨ (J.go i H ∧ ∀ x H', J.yld i H x H' → g x σ' H' fun σ2 H2 => tt σ2 H2 fun b H3 =>
    if b = true then te σ2 H3 fun y H4 => H4 D = some (.lst acc) ∧ acc.length < sizeLine ∧ ∃ m', m' < m ∧ W (i + 1) m' σ2 (acc ++ [y]) (upd H4 D (.lst (acc ++ [y]))) else ∃ m', m' < m ∧ W (i + 1) m' σ2 acc H3)

section
variable {X : Cx} {pins : List (Addr × Obj)} {σ : St} {H : Hp} {s : Shared}
/-- behind the block -/
theorem blk_end {scope : Scope} {N : List Str} {cl : List (Str × Addr)} {fp : List Addr} {h' : Heap} {σ' : St} {H' : Hp} {s' : Shared} (I : Inv X pins σ H s) (hf : ∀ b ∈ fp, FpOk X pins H b)
    (J : Inv (X.blk scope N cl s.heap.objs.size s H fp pins) [] σ' H' s') (hs : Heap.SameBut s.heap.objs.size s'.heap h') : Inv X pins σ H' { s' with heap := h' } := by
  have B := J.base
  have ne : ∀ b o, s.heap.get? b = some o → b ≠ s.heap.objs.size := fun b o e => Nat.ne_of_lt (Heap.lt_size e)
  have u : Un (frs X.stack) fp H H' s.heap h' := ⟨fun b o e n h1 h2 => (hs.2 b (ne b o e)).trans (B.keep b o e n h1 h2), fun b o e n h1 h2 => by
      obtain ⟨sl, z⟩ := B.slot b o e n h1 h2
      exact ⟨sl, (hs.2 b (ne b o e)).trans z⟩, B.free, fun b o e h2 => by
      obtain ⟨o', z⟩ := B.there b o e h2
      exact ⟨o', (hs.2 b (ne b o e)).trans z⟩, B.tups, B.frzs, B.tbls⟩
  have hok : HOk X.prog X.w H' h' := fun b o e => by
    refine (J.hok b o e).stay (fun c v hc q => (hs.2 c ?_).trans q) (fun _ z => z) fun _ _ z => z
    have fr : H' s.heap.objs.size = none := J.free
    rintro rfl
    rcases hc with z | z
    · rw [← z, fr] at e
      cases e
    · rw [fr] at z
      cases z
  exact I.call' (s' := { s' with heap := h' }) (ch := fp) J.os u hok J.bare fun b hb => ⟨(hf b hb).2.2.2.1, (hf b hb).2.1, (hf b hb).2.2.2.2.1, (hf b hb).2.2.2.2.2⟩

variable {elt iter tg : Expr} {ifs : List Expr} {scope : Scope} {pos : Pos} {own capn : List Str} {capI : List Nat} {wi : TI} {g : TG} {tt : TT} {te : TE}
theorem pe_lc (hc : X.calm = true) (B : BlkScope X scope own capn capI) (hi : PI X tg iter wi) (hg : ∀ cl C s H fp pins, PG (X.blk scope (own ++ capn) cl C s H fp pins) tg g)
    (ht : ∀ cl C s H fp pins, PIfs (X.blk scope (own ++ capn) cl C s H fp pins) ifs tt) (he : ∀ cl C s H fp pins, PE (X.blk scope (own ++ capn) cl C s H fp pins) elt te)
    (hs : ∀ x, foldedSetIterable iter X.env x = pure x := by intro _; rfl) : PE X (.ListComp elt [⟨tg, iter, ifs, 0⟩] scope pos) (tLC wi own.length capI g tt te) := by
  intro pins s σ H Q I h
  rw [eval_ListComp]
  obtain ⟨cl, hclos, hcl, hcf⟩ := closure_of (env := X.env) (scope := scope) (fun y hy hf => I.ok.has y.1 (.inl (B.free y hy hf)))
  refine wpAny_comprehension_free (use := none) rfl hs hclos B.kind B.names (thn (hi pins s σ H _ I h) fun v s1 h1 => thn h1 fun itv s2 h2 => ?_)
  obtain ⟨it, fp, tn, J, H2, e, I2, T, st2, f2, hW⟩ := h2
  subst e
  obtain ⟨W, ⟨m0, w0⟩, turn⟩ := hW s2.heap.objs.size (I2.hok.fresh (Nat.le_refl _))
  refine wpAny_newObj_type (wpAny_newFunctionEnv B.cell (by intro y hy; simp at hy) (fun h4 hns hsb => ?_) B.kind)
  dsimp only at hns hsb ⊢
  have I3 : Inv X pins σ (upd H2 s2.heap.objs.size (.lst [])) { s2 with heap := s2.heap.push { cls := .type "list", dict := none, data := .seq ([] : List Value).toArray } } :=
    I2.laid (t' := s2.toks) (fun b u e => Heap.get?_push_of_some _ e) (Nat.le_refl _) ⟨Nat.zero_le _, [], 0, .nil, Heap.get?_push_size _ rfl⟩
  generalize hs3 : ({ s2 with heap := s2.heap.push { cls := .type "list", dict := none, data := .seq ([] : List Value).toArray } } : Shared) = s3 at I3
  have e3 : s2.heap.push { cls := .type "list", dict := none, data := .seq ([] : List Value).toArray } = s3.heap := by rw [← hs3]
  have ob2 : ∀ b ∈ fp, ∃ o, s2.heap.get? b = some o := fun b hb => let ⟨o, z, _⟩ := T.obj _ _ st2 b hb; ⟨o, z⟩
  have up3 : ∀ b o, s2.heap.get? b = some o → s3.heap.get? b = some o := fun b o z => by
    rw [← e3]
    exact Heap.get?_push_of_some _ z
  have f3 : ∀ b ∈ fp, FpOk X pins (upd H2 s2.heap.objs.size (.lst [])) b := fun b hb => by
    obtain ⟨o, z⟩ := ob2 b hb
    exact ⟨by rw [upd_ne (Nat.ne_of_lt (Heap.lt_size z))]; exact (f2 b hb).1, (f2 b hb).2⟩
  have ob3 : ∀ b ∈ fp, ∃ o, s3.heap.get? b = some o := fun b hb => let ⟨o, z⟩ := ob2 b hb; ⟨o, up3 b o z⟩
  rw [e3] at hns hsb ⊢
  have up4 : ∀ b o, s3.heap.get? b = some o → h4.get? b = some o := fun b o z => (hsb.2 b (Nat.ne_of_lt (Heap.lt_size z))).trans (Heap.get?_push_of_some _ z)
  have IB := blk_start (t' := s2.toks + ([] : List (Str × Value)).length) B I3 f3 ob3 hcl hcf hns up4
  have e4 : ({ s3 with heap := h4, toks := s2.toks + ([] : List (Str × Value)).length } : Shared) = { s2 with heap := h4, toks := s2.toks + ([] : List (Str × Value)).length } := by rw [← hs3]
  rw [e4] at IB
  have tn4 : tn 0 h4 := T.keep _ _ _ st2 fun b hb o z => up4 b o (up3 b o z)
  have fst : ∀ {H' : Hp}, (∀ b ∈ fp, H' b = none) → ∀ b ∈ fp, FpOk (X.blk scope (own ++ capn) cl s3.heap.objs.size s3 (upd H2 s2.heap.objs.size (.lst [])) fp pins) [] H' b := fun {H'} hn b hb => by
    obtain ⟨o, z⟩ := ob3 b hb
    refine ⟨hn b hb, Nat.ne_of_lt (Heap.lt_size z), fun y => ?_, .inl hb, fun x c ec => (f3 b hb).2.2.2.2.1 x c (hcl x c ec), fun p hp => (f3 b hb).2.2.2.2.2 p (by have y : p ∈ (X.pn ++ pins) ++ [] := hp; simpa using y)⟩
    rcases List.mem_cons.mp (I3.stkSub b y) with y | y
    · exact (f3 b hb).2.1 y
    · exact (f3 b hb).2.2.1 y
  have loop : codeAny (model X.prog X.w) X.A (.compLoop (.ListComp elt [⟨tg, iter, ifs, 0⟩] scope pos) 0 (.ref it) (.ref s2.heap.objs.size) (compEnvC scope cl s3.heap.objs.size X.env))
      (compPost (model X.prog X.w) X.A X.xe none (EP X pins σ Q) (.ref s2.heap.objs.size) s3.heap.objs.size) { s2 with heap := h4, toks := s2.toks + ([] : List (Str × Value)).length } := by
    refine comp_loop (fun n s' => ∃ i σ' acc H', Inv (X.blk scope (own ++ capn) cl s3.heap.objs.size s3 (upd H2 s2.heap.objs.size (.lst [])) fp pins) [] σ' H' s' ∧ tn i s'.heap ∧ (∀ b ∈ fp, H' b = none) ∧ W i n σ' acc H') ?_ m0 ⟨0, _, [], _, IB, tn4, fun b hb => (f3 b hb).1, w0⟩
    rintro n s5 ⟨i, σ5, acc, H5, I5, st5, fr5, w5⟩
    have no : ∀ {α : Type} {t : Sem α} {Q : α → Shared → Prop} {E : Value → Shared → Prop} {s : Shared}, wpAny (model X.prog X.w) X.A t Q (fun _ _ => False) s → wpAny (model X.prog X.w) X.A t Q E s := fun z => wpAny_mono z (fun _ _ y => y) fun _ _ y => y.elim
    rcases turn i n σ5 acc H5 w5 with ⟨stop, qn⟩ | ⟨go, step⟩
    · refine no (thn (T.done (X.blk scope (own ++ capn) cl s3.heap.objs.size s3 (upd H2 s2.heap.objs.size (.lst [])) fp pins) rfl rfl rfl hc i [] s5 σ5 H5 _ I5 (fst fr5) st5 stop) fun r s6 ⟨hr, I6⟩ => ?_)
      subst hr
      obtain ⟨m, hm, _⟩ := id I6.loc
      exact ⟨m, hm, fun h' hs' => ⟨.ref s2.heap.objs.size, H5, blk_end I3 f3 I6 hs', rfl, qn⟩⟩
    · refine no (thn (T.item (X.blk scope (own ++ capn) cl s3.heap.objs.size s3 (upd H2 s2.heap.objs.size (.lst [])) fp pins) rfl rfl rfl hc i [] s5 σ5 H5 _ I5 (fst fr5) st5 go) fun r s6 ⟨u, hr, h6⟩ => ?_)
      subst hr
      refine no (thn h6 fun _ s7 ⟨x, H7, I7, r7, y7, st7, fr7⟩ => ?_)
      have I7' := I7.pinned (fst fr7) (T.obj _ _ st7)
      have kp : ∀ {σ8 : St} {H8 : Hp} {s8 : Shared}, Inv (X.blk scope (own ++ capn) cl s3.heap.objs.size s3 (upd H2 s2.heap.objs.size (.lst [])) fp pins) ([] ++ pinsAt fp s7.heap) σ8 H8 s8 → tn (i + 1) s8.heap ∧ ∀ b ∈ fp, H8 b = none := fun {σ8 H8 s8} I8 => by
        refine ⟨T.keep _ _ _ st7 fun b hb o z => (I8.pin (b, o) (List.mem_append_right _ (List.mem_append_right _ (mem_pinsAt hb z)))).1, fun b hb => ?_⟩
        obtain ⟨o, z, d⟩ := T.obj _ _ st7 b hb
        exact (I8.pin (b, o) (List.mem_append_right _ (List.mem_append_right _ (mem_pinsAt hb z)))).2.1
      refine no (thn (hg cl s3.heap.objs.size s3 _ fp pins _ s7 σ5 H7 x u _ I7' r7 (step x H7 y7)) fun _ s8 ⟨σ8, H8, I8, q8⟩ => ?_)
      refine no (thn (ht cl s3.heap.objs.size s3 _ fp pins _ s8 σ8 H8 _ I8 q8) fun b s9 ⟨H9, I9, q9⟩ => ?_)
      cases b with
      | false =>
        obtain ⟨m', hm, w9⟩ := q9
        exact ⟨m', hm, i + 1, σ8, acc, H9, I9.unpinned, (kp I9).1, (kp I9).2, w9⟩
      | true =>
        refine no (thn (he cl s3.heap.objs.size s3 _ fp pins _ s9 σ8 H9 _ I9 q9) fun y s10 ⟨yv, H10, I10, r10, hD, hz, m', hm, w10⟩ => ?_)
        refine no (thn (mt_append _ s10 σ8 H10 (.ref s2.heap.objs.size) [yv] (.ref s2.heap.objs.size) [y] (fun v H11 => v = .non ∧ H11 = upd H10 s2.heap.objs.size (.lst (acc ++ [yv]))) I10 rfl (.cons r10 .nil) ⟨_, acc, yv, rfl, rfl, hD, hz, rfl, rfl⟩) fun _ s11 ⟨_, H11, I11, _, _, e11⟩ => ?_)
        subst e11
        exact ⟨m', hm, i + 1, σ8, acc ++ [yv], _, I11.unpinned, (kp I11).1, (kp I11).2, w10⟩
  exact codeAny_compStart_list loop (T.self _ 0 _ _ _ tn4 loop)
end
end L2

namespace L2
open PySem PySem.Spec PyProof.Rows




section
variable {X : Cx} {x a : Str} {C fI : Addr} {o value : Expr} {pos pos' : Pos} {ta tv : TE} {mg : Str → Option Value}

end
end L2

set_option maxHeartbeats 1000000
namespace L2
open PySem PySem.Spec PyProof.Rows

section
variable {M : Model} {A : Around} {E : Value → Shared → Prop} {env : Env}
variable {nm q : Str} {C N : Addr} {bs bm : List Value} {hdct : Bool} {sn : List Str} {sub : List Value} {ab : Bool} {col : Option Bool} {dd : Option Addr} {k0 k1 k2 k3 k5 : Option Value} {newId : String}
end

section
variable {P : Program} {w : World} {K : PySem.W.Frag} {mg : Str → Option Value} {base : Heap} {N : List Str} {qual : Str} {scope : Scope} {f : Addr} {cd : Value} {A : Around} {outer : List Env} {s₀ : Shared} {H₀ : Hp} {E : XK}
end

section
variable {X : Cx} {x a : Str} {C fI : Addr} {np cpos pos : Pos} {E : XK} {e₀ : Expr} {rest : List Expr} {t : TA} {k : Nat} {fd : FuncData} {ps : List Str} {sp : Sp}
end
end L2

set_option maxHeartbeats 1000000
/-! dict(a list of pairs) -/
namespace L2
open PySem PySem.Spec PyProof.Rows


end L2

set_option maxHeartbeats 1000000
namespace L2
open PySem PySem.Spec PyProof.Rows
section
variable {prog : Program} {w : World} {K : Type} [DecidableEq K] {knd : KeyKind prog w K} {A : Around}



end
end L2

set_option maxHeartbeats 1000000
namespace L2
open PySem PySem.Spec PyProof.Rows

/-! ### dict(..) -/
section
variable {X : Cx}


/-! ### isinstance(x, T), T a built-in type -/

/-! ### // by a divisor of up to 64 bits -/
end

/-! ### data: a value without anything that may change -/
mutual
inductive Rp (K : PySem.W.Frag) (H : Hp) : V → PyData → Prop
  | non : Rp K H .non .none
  | bl (b : Bool) : Rp K H (.bl b) (.bool b)
  | int (i : Int) : Rp K H (.int i) (.int i)
  | str (x : Str) : Rp K H (.str x) (.str x)
  | tup {a : Addr} {xs : List V} {ds : List PyData} : SqT K H a xs → Rps K H xs ds → Rp K H (.ref a) (.tuple ds)
  | lst {a : Addr} {xs : List V} {ds : List PyData} : SqL K H a xs → Rps K H xs ds → Rp K H (.ref a) (.list ds)
inductive Rps (K : PySem.W.Frag) (H : Hp) : List V → List PyData → Prop
  | nil : Rps K H [] []
  | cons {x : V} {d : PyData} {xs : List V} {ds : List PyData} : Rp K H x d → Rps K H xs ds → Rps K H (x :: xs) (d :: ds)
end
theorem Same.sqT {K : PySem.W.Frag} {H H' : Hp} {a : Addr} {xs : List V} (e : Same H H') (h : SqT K H a xs) : SqT K H' a xs := by
  rcases h with (h | ⟨o, h⟩) | h
  · exact .inl (.inl (e _ _ h))
  · exact .inl (.inr ⟨o, e _ _ h⟩)
  · exact .inr h
mutual
theorem Rp.same {K : PySem.W.Frag} {H H' : Hp} (s : Same H H') : ∀ {v : V} {d : PyData}, Rp K H v d → Rp K H' v d
  | _, _, .non => .non
  | _, _, .bl b => .bl b
  | _, _, .int i => .int i
  | _, _, .str x => .str x
  | _, _, .tup h r => .tup (s.sqT h) (Rps.same s r)
  | _, _, .lst h r => .lst (s.seq h) (Rps.same s r)
theorem Rps.same {K : PySem.W.Frag} {H H' : Hp} (s : Same H H') : ∀ {v : List V} {d : List PyData}, Rps K H v d → Rps K H' v d
  | _, _, .nil => .nil
  | _, _, .cons h r => .cons (Rp.same s h) (Rps.same s r)
end
section
variable {X : Cx} {pins : List (Addr × Obj)} {σ : St} {H : Hp} {s : Shared}
mutual
theorem Rp.reads (I : Inv X pins σ H s) : ∀ {v : V} {d : PyData} {u : Value}, Rp X.K H v d → RelV v u → ∃ as, Reads s.heap u d as
  | _, _, _, .non, r => by cases (show _ = Value.none from r); exact ⟨_, Reads.none⟩
  | _, _, _, .bl b, r => by cases (show _ = Value.bool b from r); exact ⟨_, Reads.bool b⟩
  | _, _, _, .int i, r => by obtain ⟨t, rfl⟩ := r; exact ⟨_, Reads.int i t⟩
  | _, _, _, .str x, r => by obtain ⟨t, rfl⟩ := r; exact ⟨_, Reads.str x t⟩
  | _, _, _, .tup h q, r => by
    cases (show _ = Value.ref _ from r)
    obtain ⟨its, rv, ⟨o, e, c, n, d⟩, _⟩ := I.tuple h
    obtain ⟨as, z⟩ := Rps.reads I q rv
    exact ⟨as, reads_tuple_at e c d (by simpa using z)⟩
  | _, _, _, .lst h q, r => by
    cases (show _ = Value.ref _ from r)
    obtain ⟨its, rv, ⟨o, n, e, c, _, d⟩, _⟩ := I.list h
    obtain ⟨as, z⟩ := Rps.reads I q rv
    exact ⟨_, reads_list_at e c d (by simpa using z)⟩
theorem Rps.reads (I : Inv X pins σ H s) : ∀ {v : List V} {d : List PyData} {u : List Value}, Rps X.K H v d → Vals v u → ∃ as, ReadsAll s.heap u d as
  | _, _, _, .nil, .nil => ⟨_, ReadsAll.nil⟩
  | _, _, _, .cons h q, .cons r t => by
    obtain ⟨as, a⟩ := Rp.reads I h r
    obtain ⟨bs, b⟩ := Rps.reads I q t
    exact ⟨_, ReadsAll.cons a b⟩
end
/-- == and != of data -/
noncomputable def rEqD (K : PySem.W.Frag) (neg : Bool) : R2 := fun x y H Q => ∃ d e, Rp K H x d ∧ Rp K H y e ∧ SeqAt.shaped d = true ∧ SeqAt.shaped e = true ∧ Q (.bl (if neg then !PyData.eqv d e else PyData.eqv d e)) H
theorem op_neD (hu : X.A.units + 64 < cLine) : OpR X (compareOp .NotEq) (rEqD X.K true) := by
  intro pins s σ H x y v u Q I rx ry h
  obtain ⟨d, e, hd, he, sd, se, q⟩ := h
  obtain ⟨as, ra⟩ := hd.reads I rx
  obtain ⟨bs, rb⟩ := he.reads I ry
  exact ne_dataH ra rb sd se hu ⟨.bl _, H, I, rfl, q⟩
end

/-! ### defs, methods, classes in one word each -/
structure Fn (P : Program) (w : World) (K : PySem.W.Frag) (mg : Str → Option Value) (base : Heap) (x : Str) (k : Nat) (ps : List Str) (sp : Sp) : Prop where
  ex : ∃ f fd, FnOk P w K mg base (CX1 P w) k f fd ps sp ∧ mg x = some (.ref f) ∧ PySem.W.keepIn K (.ref f) = true ∧ Binds K fd ps []
structure Mt (P : Program) (w : World) (K : PySem.W.Frag) (mg : Str → Option Value) (base : Heap) (C : Addr) (m : Str) (k : Nat) (ps : List Str) (sp : Sp) : Prop where
  ex : ∃ f fd, FnOk P w K mg base (CX1 P w) k f fd ps sp ∧ Meth K C m f ∧ Cls K C ∧ Binds K fd ps []
structure Mc (P : Program) (w : World) (K : PySem.W.Frag) (mg : Str → Option Value) (base : Heap) (x : Str) (C : Addr) (k : Nat) (ps : List Str) (sp : Sp) : Prop where
  ex : ∃ f fd, FnOk P w K mg base (CX1 P w) k f fd ps sp ∧ Mk K C f ∧ mg x = some (.ref C) ∧ Binds K fd ps []
section
variable {X : Cx} {k : Nat} {C : Addr} {ps : List Str} {sp : Sp} {E : XK} {x m : Str} {p pos apos : Pos} {e o : Expr} {es : List Expr} {ta : TE} {t : TA}
theorem pf_call (F : Fn X.prog X.w X.K X.mg X.base x k ps sp) (hr : Room k X.A) (hg : Gl X x) (hx : Passes (CX1 X.prog X.w) X E) (ha : PA X (e :: es) t) (hdb : (x == ("__debug__" : Str)) = false := by decide)
    (he : starEach (e :: es) X.env = (false, eval e X.env) :: starEach es X.env := by rfl) (hpl : (backTo pos (starEach es X.env)).any (·.1) = false := by rfl) : PE X (.Call (.Name x p) (e :: es) [] pos) (tCall sp [] E t) := by
  obtain ⟨f, fd, ok, mgf, kp, bi⟩ := F.ex
  exact pe_call ok hr hg mgf kp bi .nil hx ha hdb he hpl
theorem pf_meth {pl : Sem Bool} (F : Mt X.prog X.w X.K X.mg X.base C m k ps sp) (ho : PE X o ta) (hr : Room k X.A) (hx : Passes (CX1 X.prog X.w) X E) (ha : PA X (e :: es) t)
    (hst : starEach (e :: es) X.env = (false, eval e X.env) :: starEach es X.env := by rfl) (hpl : (backTo pos (starEach es X.env)).any (·.1) = false := by rfl)
    (ht : eval (.Call (.Attribute o m apos) (e :: es) [] pos) X.env = (do
      let ov ← eval o X.env
      standAt apos.atName
      let (f, first) ← holding [ov] (getMethod ov m pl)
      callWith pos f first (backTo pos (starEach (e :: es) X.env)) (backToKw pos (keywordEach [] X.env))) := by rfl) :
    PE X (.Call (.Attribute o m apos) (e :: es) [] pos) (tMeth C m sp [] E ta t) := by
  obtain ⟨f, fd, ok, mt, cl, bi⟩ := F.ex
  exact pe_meth (pl := pl) ho cl mt ok hr bi .nil hx ha hst hpl ht
theorem pf_meth0 {pl : Sem Bool} (F : Mt X.prog X.w X.K X.mg X.base C m k ps sp) (ho : PE X o ta) (hr : Room k X.A) (hx : Passes (CX1 X.prog X.w) X E)
    (ht : eval (.Call (.Attribute o m apos) [] [] pos) X.env = (do
      let ov ← eval o X.env
      standAt apos.atName
      let (f, first) ← holding [ov] (getMethod ov m pl)
      callWith pos f first (backTo pos (starEach [] X.env)) (backToKw pos (keywordEach [] X.env))) := by rfl) :
    PE X (.Call (.Attribute o m apos) [] [] pos) (tMeth C m sp [] E ta tNil) := by
  obtain ⟨f, fd, ok, mt, cl, bi⟩ := F.ex
  exact pe_meth0 (pl := pl) ho cl mt ok hr bi .nil hx ht
theorem pf_make (F : Mc X.prog X.w X.K X.mg X.base x C k ps sp) (hr : Room (k + 1) X.A) (hg : Gl X x) (hx : Passes (CX1 X.prog X.w) X E) (ha : PA X (e :: es) t) (hdb : (x == ("__debug__" : Str)) = false := by decide)
    (he : starEach (e :: es) X.env = (false, eval e X.env) :: starEach es X.env := by rfl) (hpl : (backTo pos (starEach es X.env)).any (·.1) = false := by rfl) : PE X (.Call (.Name x p) (e :: es) [] pos) (tMake C sp [] E t) := by
  obtain ⟨f, fd, ok, mk, mgx, bi⟩ := F.ex
  exact pe_make mk ok hr hg mgx bi .nil hx ha hdb he hpl
end
end L2

namespace L2
open PySem PySem.Spec PyProof.Rows
/-! ### arguments: the head's form is looked at, not what stands in it -/
section
variable {X : Cx} {es : List Expr} {env : Env}
end
end L2

namespace L2
open PySem PySem.Spec PyProof.Rows
section
variable {X : Cx} {elt iter tg : Expr} {ifs : List Expr} {scope : Scope} {pos : Pos} {own capn : List Str} {capI : List Nat} {wi : TI} {g : TG} {tt : TT} {te : TE}
end
end L2

namespace L2
open PySem PySem.Spec PyProof.Rows
section
variable {X : Cx}
end
end L2

set_option maxHeartbeats 1000000
namespace L2
open PySem PySem.Spec PyProof.Rows
section
variable {prog : Program} {w : World} {A : Around} {E : Value → Shared → Prop} {s : Shared}
end
section
variable {prog : Program} {w : World} {K : Type} [DecidableEq K] {knd : KeyKind prog w K} {A : Around}
end
end L2

set_option maxHeartbeats 1000000
namespace L2
open PySem PySem.Spec PyProof.Rows
section
variable {prog : Program} {w : World} {K : Type} [DecidableEq K] {knd : KeyKind prog w K} {A : Around}
end
end L2

set_option maxHeartbeats 1000000
namespace L2
open PySem PySem.Spec PyProof.Rows
section
variable {X : Cx}
end
end L2

set_option maxHeartbeats 1000000
namespace L2
open PySem PySem.Spec PyProof.Rows
section
variable {X : Cx} {e st : Expr} {te : TE} {lo hi : Option Expr} {tl th ts : TO} {pos p2 : Pos}
end
end L2

set_option maxHeartbeats 1000000
namespace L2
open PySem PySem.Spec PyProof.Rows
section
variable {X : Cx} {pins : List (Addr × Obj)} {σ : List (Option V)} {H H' : Hp} {s : Shared} {h' : Heap}
/-- records of ours have turned -/
theorem Inv.turnedL {t' : Nat} {wr : List Addr} (I : Inv X pins σ H s) (k : ∀ b o, b ∉ wr → s.heap.get? b = some o → h'.get? b = some o) (hf : ∀ b ∈ wr, FpOk X pins H b) : Inv X pins σ H { s with heap := h', toks := t' } := by
  have nit : ∀ b u, H b = some u → b ∉ wr := fun b u e z => by rw [(hf b z).1] at e; cases e
  refine I.step (g' := s.gens) (d' := s.drawn) (ch := wr) (fun b hb => ⟨(hf b hb).2.2.2.1, (hf b hb).2.1, (hf b hb).2.2.2.2.1, (hf b hb).2.2.2.2.2⟩) (fun b o _ _ hc e _ => k b o hc e) (fun b o _ _ hc e _ => ⟨o.slots, k b o hc e⟩) (fun _ _ _ _ n => n)
    (fun b o hc e => ⟨o, k b o hc e⟩) (fun _ _ e => e) (fun _ _ _ e => e) (fun b ps e => ⟨#[], by rw [e]; simp⟩) (fun m hm => ?_) (fun b u e => ?_) I.bare
  · obtain ⟨o, es, ep, ho, r⟩ := hm
    exact ⟨o, es, ep, k _ o (fun z => (hf _ z).2.1 rfl) ho, r⟩
  · refine (I.hok b u e).stay (fun c v hc q => k c v ?_ q) (fun _ q => q) fun _ _ q => q
    rcases hc with z | z
    · rw [z]; exact nit b u e
    · exact nit c _ z
end

section
variable {X : Cx} {elts : List Expr} {kk : Nat} {pt : Pos}
end
end L2

set_option maxHeartbeats 1000000
namespace L2
open PySem PySem.Spec PyProof.Rows
section
variable {X : Cx} {o i : Expr} {pos : Pos} {td ty : TE}
end
section
variable {X : Cx} {k : Nat} {f C : Addr} {fd : FuncData} {ps : List Str} {sp : Sp} {dvs : List V} {ds : List Value} {m : Str} {p pos apos epos cpos : Pos} {e o : Expr} {es : List Expr} {ta : TE} {t : TA}
variable {te : XK → TE} {cx n : Str} {np hpos tpos wpos : Pos} {i j : Nat} {b₀ : Stmt} {suite : List Stmt} {ts : TS} {Cc : Addr} {call : Expr}
end
end L2

set_option maxHeartbeats 1000000
namespace L2
open PySem PySem.Spec PyProof.Rows
end L2

set_option maxHeartbeats 1000000
namespace L2
open PySem PySem.Spec PyProof.Rows
/-! ### the greatest of whole numbers -/
section
variable {prog : Program} {w : World} {A : Around} {R : Result → Shared → Prop} {I S : Addr} {fp wr : List Addr} {n : Nat} {P : Nat → Value → Prop} {St : Nat → Heap → Prop} {kw : List (Str × Value)} {bt : Nat → Nat → Bool}
end
section
variable {X : Cx}
end
end L2

set_option maxHeartbeats 1000000
namespace L2
open PySem PySem.Spec PyProof.Rows
/-! ### a comprehension one of whose own names is taken by a comprehension within it: a new cell stands behind the map -/
section
variable {X : Cx} {pins : List (Addr × Obj)} {σ : St} {H : Hp} {s : Shared}

variable {elt iter tg : Expr} {ifs : List Expr} {scope : Scope} {pos : Pos} {own capn : List Str} {capI : List Nat} {wi : TI} {g : TG} {tt : TT} {te : TE}
end
end L2

set_option maxHeartbeats 1000000
namespace L2
open PySem PySem.Spec PyProof.Rows
section
variable {X : Cx} {pins : List (Addr × Obj)} {σ : St} {H : Hp} {s : Shared} {a : Addr} {u : HO} {o : Obj}
/-! ### a dict held fast while it is gone through -/
end
/-! ### the keys of a dict, one by one -/
section
variable {prog : Program} {w : World} {A : Around} {E : Value → Shared → Prop} {sh : Shared} {ic dc : Addr} {i ep : Nat} {od : Obj} {es : Array DictEntry} {Q : Option Value → Shared → Prop}
end
section
variable {X : Cx} {tg : Expr}
end
end L2



set_option maxHeartbeats 1000000
namespace L2
open PySem PySem.Spec PyProof.Rows
/-! ### the items of a dict, one by one -/
section
variable {X : Cx} {elts : List Expr} {kk : Nat} {pt : Pos}
end
/-! ### any of a list of truths -/
theorem bools_items : ∀ {bs : List Bool} {its : List Value}, Vals (bs.map V.bl) its → its = bs.map Value.bool
  | [], its, h => by cases h; rfl
  | b :: bs, its, h => by
    cases h with
    | cons a r =>
      rw [bools_items r]
      cases a
      rfl
end L2

set_option maxHeartbeats 1000000
namespace L2
open PySem PySem.Spec PyProof.Rows
section
variable {X : Cx}
/-! ### texts: slices, signs one by one -/
/-- z[lo:hi] of a text -/
noncomputable def rSlS : V → Option Int → Option Int → Hp → VK → Prop := fun x lo hi H Q => ∃ z : Str, x = .str z ∧ z.length ≤ sizeLine ∧ Q (.str (Txt.slice z lo hi)) H
theorem part_of {v : Value} {o : Option Int} (h : IsPart v o) : ∃ l : Option (Int × Tok), v = partValue l ∧ l.map (·.1) = o := by
  cases h with
  | none => exact ⟨none, rfl, rfl⟩
  | int i t => exact ⟨some (i, t), rfl, rfl⟩
theorem sl_str : SlR X rSlS := by
  intro pins s σ H x v vl vu lo hi sl Q I rx hs pl pu h
  obtain ⟨z, rfl, hz, q⟩ := h
  obtain ⟨t, rfl⟩ := rx
  obtain ⟨l, rfl, rfl⟩ := part_of pl
  obtain ⟨u, rfl, rfl⟩ := part_of pu
  obtain ⟨o, ho, hc, hd⟩ := hs
  refine ⟨"str", _, F.slot_str_getitem.lookup, typeIs_str _ _ _, wpAny_getItem_str_slice (l := l) (u := u) (st := none) ⟨o, ho, hc, hd⟩ rfl ?_⟩
  exact post_val_or_str ⟨Nat.le_trans (Txt.slice_le z _ _) hz, fun t' k => ⟨.str (Txt.slice z (l.map (·.1)) (u.map (·.1))), H, I.tok k, ⟨t', rfl⟩, q⟩⟩
/-- the signs of a text -/
noncomputable def Its (z : Str) : It := ⟨fun i _ => i < z.cps.size, fun i H x H' => H' = H ∧ ∃ c, z.cps[i]? = some c ∧ x = .str ⟨#[c]⟩, fun i _ => z.cps.size ≤ i⟩
noncomputable def iStr (tl : TE) : TI := fun σ H R => tl σ H fun x H1 => ∃ z : Str, x = .str z ∧ R (Its z) H1
theorem turn_str {P : Program} {w : World} {K : PySem.W.Frag} {tg : Expr} {z : Str} {t : Tok} {it : Addr} {ty : String} (hn : ["enumerate", "zip", "dict_itemiterator", "dict_reverseitemiterator", "odict_iterator", "itertools.zip_longest", "itertools.pairwise"].contains ty = false)
    (W : ∀ A : Around, A.handled = none → Walks P w A it [it] [it] z.cps.size (SignAt z) (fun i h => h.IsStrIter it ty z t i)) (S : ∀ (A : Around) (i : Nat) (s : Shared) (Q : Value → Shared → Prop) (E : Value → Shared → Prop), s.heap.IsStrIter it ty z t i → Q (.ref it) s → wpAny (model P w) A (pyIter (.ref it)) Q E s) : Turn P w K tg (Its z) [it] it (fun i h => i ≤ z.cps.size ∧ h.IsStrIter it ty z t i) where
  mem := by simp
  obj := fun i h st b hb => by
    have e : b = it := by simpa using hb
    subst e
    obtain ⟨o, e, c, d⟩ := st.2
    exact ⟨o, e, fun v z => by rw [d] at z; cases z⟩
  keep := fun i h h' st k => by
    obtain ⟨o, e, r⟩ := st.2
    exact ⟨st.1, o, k it (by simp) o e, r⟩
  item := by
    intro X hP hw hK hc i pins s σ H E I hf st hg
    subst hP hw hK
    obtain ⟨f0, f1, f2, f3, f4, f5⟩ := hf it (by simp)
    refine (W X.A (I.ok.hd hc)).item i s _ _ hg st.2 fun v h' tk pv st' k => ?_
    obtain ⟨c, u, hcp, rfl⟩ := pv
    have I1 : Inv X pins σ H { s with heap := h', toks := tk } := I.turned (t' := tk) (fun b o hb e => k b o (by simpa using hb) e) f0 f1 f3 f4 f5
    obtain ⟨o, e, c', d⟩ := id st'
    exact ⟨_, rfl, go_of (s := { s with heap := h', toks := tk }) e c' d hn ⟨.str ⟨#[c]⟩, H, I1, ⟨u, rfl⟩, ⟨rfl, c, hcp, rfl⟩, ⟨hg, st'⟩, fun b hb => (hf b hb).1⟩⟩
  done := by
    intro X hP hw hK hc i pins s σ H E I hf st hg
    subst hP hw hK
    obtain ⟨f0, f1, f2, f3, f4, f5⟩ := hf it (by simp)
    have e : i = z.cps.size := Nat.le_antisymm st.1 hg
    subst e
    exact (W X.A (I.ok.hd hc)).done s _ _ st.2 fun h' tk k => ⟨rfl, I.turned (t' := tk) (fun b o hb e => k b o (by simpa using hb) e) f0 f1 f3 f4 f5⟩
  self := fun A i s Q E st h => S A i s Q E st.2 h
theorem pi_str {tg l : Expr} {tl : TE} (hl : PE X l tl) : PI X tg l (iStr tl) := by
  intro pins s σ H R I h
  refine thn (hl pins s σ H _ I h) fun v s1 ⟨x, H1, I1, r1, q1⟩ => ?_
  obtain ⟨z, rfl, q⟩ := q1
  obtain ⟨t, rfl⟩ := r1
  have fin : ∀ b ∈ [s1.heap.objs.size], FpOk X pins H1 b := fun b hb => by
    have e : b = s1.heap.objs.size := by simpa using hb
    subst e
    exact I1.fpOk (Nat.le_refl _) (I1.hok.fresh (Nat.le_refl _))
  cases ha : z.cps.all (· < 128)
  · exact wpAny_pyIter_wide ha ⟨s1.heap.objs.size, [s1.heap.objs.size], _, Its z, H1, rfl, I1.kept (t' := s1.toks) fun b o e => Heap.get?_push_of_some _ e, turn_str (ty := "str_iterator") (by decide) (fun A hA => Walks.strWide hA _ z t) (fun _ _ _ _ _ st h => wpAny_pyIter_striter_wide st h), ⟨Nat.zero_le _, _, Heap.get?_push_size _ rfl, rfl, rfl⟩, fin, q⟩
  · exact wpAny_pyIter_ascii ha ⟨s1.heap.objs.size, [s1.heap.objs.size], _, Its z, H1, rfl, I1.kept (t' := s1.toks) fun b o e => Heap.get?_push_of_some _ e, turn_str (ty := "str_ascii_iterator") (by decide) (fun A hA => Walks.strAscii hA _ z t) (fun _ _ _ _ _ st h => wpAny_pyIter_striter_ascii st h), ⟨Nat.zero_le _, _, Heap.get?_push_size _ rfl, rfl, rfl⟩, fin, q⟩
/-- a comprehension's or a loop's turn over a text -/
theorem st_ask {z : Str} {i : Nat} {H : Hp} {A : Prop} {B : V → Hp → Prop} (hi : i ≤ z.cps.size) (hs : ∀ c, z.cps[i]? = some c → i < z.cps.size → B (.str ⟨#[c]⟩) H) (hd : i = z.cps.size → A) :
    ((Its z).stop i H ∧ A) ∨ ((Its z).go i H ∧ ∀ x H', (Its z).yld i H x H' → B x H') := by
  by_cases hlt : i < z.cps.size
  · refine .inr ⟨hlt, fun x H' y => ?_⟩
    obtain ⟨rfl, c, hc, rfl⟩ := y
    exact hs c hc hlt
  · exact .inl ⟨by show z.cps.size ≤ i; omega, hd (by omega)⟩
/-! ### all of bools -/
noncomputable def rAllB (K : PySem.W.Frag) : List V → Hp → VK → Prop := fun xs H Q => ∃ (l : Addr) (bs : List Bool), xs = [.ref l] ∧ SqL K H l (bs.map V.bl) ∧ Q (.bl (bs.all id)) H
theorem call_allB (hc : X.calm = true) : CallR X (.builtin "all") (rAllB X.K) := by
  intro pins s σ H xs us Q I r h
  obtain ⟨l, bs, rfl, hl, q⟩ := h
  obtain ⟨u, rfl, ru⟩ := vals1 r
  obtain rfl : u = Value.ref l := ru
  obtain ⟨its, v, P1, z1⟩ := I.list hl
  have e := bools_items v
  subst e
  have hll : l < s.heap.objs.size := by
    obtain ⟨o, z, _⟩ := P1.isList
    exact Heap.lt_size z
  refine call_all_walk (wpAny_pyIter_list P1.isList ?_)
  refine ⟨s.heap.objs.size, _, _, _, _, _, (fun i => bs.getD i true), rfl, Walks.list (A := X.A.in1) (show X.A.in1.handled = none from I.ok.hd hc) s.heap.objs.size l (Nat.ne_of_lt hll) (bs.map Value.bool).toArray, ⟨⟨_, Heap.get?_push_size _ rfl, rfl, rfl⟩, ?_⟩, fun i v s' Q' E' hv hq => ?_, fun h' tk k => ?_⟩
  · exact P1.isList.at fun o z => Heap.get?_push_of_some _ z
  · have hv' : (bs.map Value.bool)[i]? = some v := by simpa using hv
    rw [List.getElem?_map] at hv'
    cases hb : bs[i]? with
    | none => rw [hb] at hv'; cases hv'
    | some b =>
      rw [hb] at hv'
      cases hv'
      refine wpAny_truthy_bool ?_
      have hq' : Q' (bs.getD i true) s' := hq
      rw [List.getD_eq_getElem?_getD, hb] at hq'
      exact hq'
  · have ea : ((List.range (bs.map Value.bool).toArray.size).all fun i => bs.getD i true) = bs.all id := by
      rw [List.size_toArray, List.length_map, Bool.eq_iff_iff, List.all_eq_true, List.all_eq_true]
      constructor
      · intro h b hb
        obtain ⟨i, hi⟩ := List.getElem?_of_mem hb
        have := h i (List.mem_range.mpr (List.getElem?_eq_some_iff.mp hi).1)
        rw [List.getD_eq_getElem?_getD, hi] at this
        exact this
      · intro h i hi
        have hi' := List.mem_range.mp hi
        rw [List.getD_eq_getElem?_getD, List.getElem?_eq_getElem hi']
        exact h _ (List.getElem_mem hi')
    rw [ea]
    have I1 : Inv X pins σ H { s with heap := s.heap.push { cls := .type "list_iterator", data := .fields #[.ref l, .int 0 0] } } := I.kept (t' := s.toks) fun b ob e => Heap.get?_push_of_some _ e
    refine ⟨.bl _, H, I1.turnedL (t' := tk) (wr := [s.heap.objs.size]) k fun b hb => ?_, rfl, q⟩
    have e := List.mem_singleton.mp hb
    subst e
    exact I.fpOk (Nat.le_refl _) (I.hok.fresh (Nat.le_refl _))
/-! ### int(text) -/
noncomputable def rIntS : List V → Hp → VK → Prop := fun xs H Q => ∃ (z : Str) (n : Int), xs = [.str z] ∧ PySem.intText? z = some n ∧ z.length ≤ 640 ∧ Q (.int n) H
theorem call_intS : CallR X (.type "int") rIntS := by
  intro pins s σ H xs us Q I r h
  obtain ⟨z, n, rfl, hn, hz, q⟩ := h
  obtain ⟨u, rfl, ru⟩ := vals1 r
  obtain ⟨t, rfl⟩ := ru
  exact PySem.W.KIN.call_text hn hz ⟨.int n, H, I.tok _, ⟨_, rfl⟩, q⟩
/-! ### text * number -/
noncomputable def repS (z : Str) (n : Nat) : Str := ⟨(List.replicate n z.cps).foldl (· ++ ·) #[]⟩
noncomputable def rMulS : R2 := fun x y H Q => ∃ (z : Str) (n : Int), x = .str z ∧ y = .int n ∧ n ≤ 1000 ∧ -1000 ≤ n ∧ z.length ≤ 1000 ∧ Q (.str (repS z n.toNat)) H
theorem repS_zero (z : Str) : repS z 0 = Str.empty := rfl
theorem repS_one (z : Str) : repS z 1 = z := by
  unfold repS
  simp
theorem repS_nil {z : Str} (h : z.length = 0) : ∀ n, repS z n = z := by
  have e : z.cps = #[] := Array.eq_empty_of_size_eq_zero h
  intro n
  unfold repS
  have : ∀ n, (List.replicate n z.cps).foldl (· ++ ·) #[] = #[] := fun n => by
    rw [e]
    induction n with
    | zero => rfl
    | succ n ih => rw [List.replicate_succ, List.foldl_cons]; simpa using ih
  rw [this]
  apply Str.ext'
  exact e.symm
theorem op_mulS : OpR X (binaryOp .Mult) rMulS := by
  intro pins s σ H x y v u Q I rx ry h
  obtain ⟨z, n, rfl, rfl, n1, n0, hz, q⟩ := h
  obtain ⟨t, rfl⟩ := rx
  obtain ⟨t', rfl⟩ := ry
  refine P.mul_str (by
    have e1 : decide (n < -(2 ^ 63 : Int)) = false := decide_eq_false (by omega)
    have e2 : decide (n ≥ 2 ^ 63) = false := decide_eq_false (by omega)
    rw [e1, e2]; rfl) (fun h1 _ => ?_) (fun h1 _ => ?_) ?_
  · have h2 : (9223372036854775 : Int) ≤ (2 ^ 63 - 1) / n := Int.le_ediv_of_mul_le (by omega) (by omega)
    omega
  · have h3 : z.length * n.toNat ≤ 1000 * 1000 := Nat.mul_le_mul hz (by omega)
    refine decide_eq_false ?_
    have : (1000000 : Nat) ≤ sizeLine := by decide
    omega
  · by_cases c1 : n < 1
    · rw [if_pos c1]
      rw [show n.toNat = 0 by omega, repS_zero] at q
      exact ⟨by decide, .str Str.empty, H, I.tok _, ⟨_, rfl⟩, q⟩
    · rw [if_neg c1]
      by_cases c2 : (n == 1 || z.length == 0) = true
      · rw [if_pos c2]
        have e : repS z n.toNat = z := by
          rcases Bool.or_eq_true _ _ |>.mp c2 with c | c
          · rw [show n.toNat = 1 by have := eq_of_beq c; omega]
            exact repS_one z
          · exact repS_nil (eq_of_beq c) _
        rw [e] at q
        exact ⟨.str z, H, I, ⟨t, rfl⟩, q⟩
      · rw [if_neg c2]
        refine ⟨?_, .str (repS z n.toNat), H, I.tok _, ⟨_, rfl⟩, q⟩
        have len : ∀ (k : Nat) (acc : Array Nat), ((List.replicate k z.cps).foldl (· ++ ·) acc).size = acc.size + k * z.cps.size := fun k => by
          induction k with
          | zero => intro acc; simp
          | succ k ih =>
            intro acc
            rw [List.replicate_succ, List.foldl_cons, ih, Array.size_append, Nat.succ_mul]
            omega
        show ((List.replicate n.toNat z.cps).foldl (· ++ ·) #[]).size ≤ sizeLine
        rw [len]
        have h3 : n.toNat * z.cps.size ≤ 1000 * 1000 := Nat.mul_le_mul (by omega) hz
        have : (1000000 : Nat) ≤ sizeLine := by decide
        simp only [Array.size_empty]
        omega
/-! ### sep.join(texts) -/
/-! ### f"..{e!r}" of a text: some text -/
noncomputable def tFsR (te : TE) : TE := fun σ H Q => te σ H fun x H1 => ∃ z : Str, x = .str z ∧ z.length ≤ 1000 ∧ (∀ c ∈ z.cps.toList, c < 16 ^ 8) ∧ ∀ y : Str, Q (.str y) H1
theorem pe_fsR {c : Str} {e : Expr} {te : TE} {j : Nat} {p1 p2 pos : Pos} (he : PE X e te) (hc : c.length ≤ 1000) : PE X (.JoinedStr [.Constant (.str c) j p1, .FormattedValue e 114 none p2] pos) (tFsR te) := by
  intro pins s σ H Q I h
  refine wpAny_JoinedStr ?_
  refine (pe_str (X := X) (x := c) (j := j) (pos := p1)) pins s σ H (fun x H1 => x = .str c ∧ H = H1) I ⟨rfl, rfl⟩ |> fun k => ?_
  show wpAny _ _ (eval (.Constant (.str c) j p1) X.env) _ _ s
  refine thn k fun u s1 ⟨x, H1, I1, r1, e1, e2⟩ => ?_
  subst e1 e2
  obtain ⟨t, rfl⟩ := r1
  have sl : (100000 : Nat) ≤ sizeLine := by decide
  refine ⟨c, t, rfl, ?_, ?_⟩
  · rw [PySem.Str.length_append]
    have : (Str.empty).length = 0 := rfl
    omega
  show wpAny _ _ (eval (.FormattedValue e 114 none p2) X.env) _ _ s1
  refine wpAny_FormattedValue_repr (thn (he pins s1 σ _ _ I1 h) fun v s2 ⟨x, H2, I2, r2, z, e, hz, hb, q⟩ => ?_)
  subst e
  obtain ⟨t2, rfl⟩ := r2
  have hr : (reprText z).length ≤ 10 * z.length + 2 := StrLaws.reprText_len z hb
  have hlen : (Str.empty ++ c ++ reprText z).length ≤ sizeLine := by
    rw [PySem.Str.length_append, PySem.Str.length_append]
    have : (Str.empty).length = 0 := rfl
    omega
  refine wpAny_pyReprObj_str (wpAny_formatField_str ?_ ?_ (by omega)) (by omega)
  · exact ⟨_, _, rfl, hlen, hlen, .str _, H2, (I2.tok _).tok _, ⟨_, rfl⟩, q _⟩
  · exact ⟨_, _, rfl, hlen, hlen, .str _, H2, ((I2.tok _).tok _).tok _, ⟨_, rfl⟩, q _⟩
end
end L2

set_option maxHeartbeats 1000000
namespace L2
open PySem PySem.Spec PySem.Calls PyProof.Rows PySem.W
/-! ### isinstance of an exception that was caught -/
/-- what the text knows of a class of exceptions -/
structure ExcK (K : PySem.W.Frag) (D : Addr) : Prop where
  cls : (clsIn K D).isSome = true
  ga : findIn K (.ref D) "__getattribute__" = some (some (.builtin "BaseException.__getattribute__"))
  gh : findIn K (.ref D) "__getattr__" = some none
  cl : findIn K (.ref D) "__class__" = some (some (.builtin "object.__class__"))
  gt : specialIn K (.builtin "object.__class__") "__get__" = some (some (.builtin "getset_descriptor.__get__"))
  tk : takesIn K (.builtin "object.__class__") = some true
  ob : mroIn K D (.type "object") = some true
  be : mroIn K D (.type "BaseException") = some true
section
variable {prog : Program} {w : World} {A : Around} {E : Value → Shared → Prop} {s : Shared} {K : PySem.W.Frag} {x C D : Addr} {ox : Obj} {odo : Option Obj}
end
section
variable {X : Cx}
end
end L2

set_option maxHeartbeats 1000000
namespace L2
open PySem PySem.Spec PyProof.Rows
section
variable {X : Cx}
/-- str(e), of a whole number or a text -/
noncomputable def rStrB : List V → Hp → VK → Prop := fun xs H Q => (∃ i : Int, xs = [.int i] ∧ i.natAbs.log2 < 1920 ∧ Q (.str (toString i)) H) ∨ ∃ z : Str, xs = [.str z] ∧ Q (.str z) H
theorem call_strB : CallR X (.type "str") rStrB := by
  intro pins s σ H xs us Q I r h
  rcases h with ⟨i, rfl, hz, q⟩ | ⟨z, rfl, q⟩
  · exact call_str_int pins s σ H _ us Q I r ⟨i, rfl, hz, q⟩
  · obtain ⟨u, rfl, t, rfl⟩ := vals1 r
    exact PySem.P.str_of_str ⟨.str z, H, I, ⟨t, rfl⟩, q⟩
end
end L2

set_option maxHeartbeats 1000000
namespace L2
open PySem PySem.Spec PyProof.Rows
/-! ### comprehensions that capture nothing; rules whose K is told -/
section
variable {X : Cx} {K : PySem.W.Frag} {a : Expr} {ta : TE}
theorem ix_listK (h : X.K = K) : IxR X (rIxL K) := by subst h; exact ix_list
end
end L2
namespace Car
open PySem L2
noncomputable def top (i : Nat) : Stmt := PySem.Challenge.pw_carvebed_k03_expressions_refused.main.body.getD i (.Pass ⟨0, 0, 0, 0⟩)
theorem same_upd {H : Hp} {p : Addr} (h : H p = none) (o : HO) : Same H (upd H p o) := fun b u q => by rw [upd_ne (ne_of_none q h)]; exact q
section
variable {K : PySem.W.Frag} {H : Hp}
theorem _root_.L2.Rp.tupO {v : V} {ds : List PyData} (h : Rp K H v (.tuple ds)) : ∃ a xs, v = .ref a ∧ SqT K H a xs ∧ Rps K H xs ds := by
  cases h with
  | tup h r => exact ⟨_, _, rfl, h, r⟩
theorem _root_.L2.Rp.strO {v : V} {x : Str} (h : Rp K H v (.str x)) : v = .str x := by
  cases h; rfl
theorem _root_.L2.Rp.intO {v : V} {i : Int} (h : Rp K H v (.int i)) : v = .int i := by
  cases h; rfl
theorem _root_.L2.Rps.consO {vs : List V} {d : PyData} {ds : List PyData} (h : Rps K H vs (d :: ds)) : ∃ x xs, vs = x :: xs ∧ Rp K H x d ∧ Rps K H xs ds := by
  cases h with
  | cons a b => exact ⟨_, _, rfl, a, b⟩
theorem _root_.L2.Rps.nilO {vs : List V} (h : Rps K H vs []) : vs = [] := by
  cases h; rfl
end
noncomputable def MvAt (H : Hp) : List Addr → List (List V) → Prop
  | [], [] => True
  | t :: ts, m :: ms => H t = some (.tup m) ∧ MvAt H ts ms
  | _, _ => False
theorem MvAt.upd {H : Hp} {q : Addr} {o : HO} (hq : ∀ m, H q ≠ some (.tup m)) : ∀ {ts : List Addr} {ms : List (List V)}, MvAt H ts ms → MvAt (upd H q o) ts ms
  | [], [], _ => True.intro
  | t :: ts, m :: ms, ⟨h, r⟩ => ⟨by rw [upd_ne (fun z => hq m (by rw [← z]; exact h))]; exact h, MvAt.upd hq r⟩
theorem MvAt.same {H H' : Hp} (s : Same H H') : ∀ {ts : List Addr} {ms : List (List V)}, MvAt H ts ms → MvAt H' ts ms
  | [], [], _ => True.intro
  | t :: ts, m :: ms, ⟨h, r⟩ => ⟨s _ _ h, MvAt.same s r⟩
theorem MvAt.snoc {H : Hp} {t : Addr} {m : List V} (h : H t = some (.tup m)) : ∀ {ts : List Addr} {ms : List (List V)}, MvAt H ts ms → MvAt H (ts ++ [t]) (ms ++ [m])
  | [], [], _ => ⟨h, True.intro⟩
  | t :: ts, m :: ms, ⟨h1, r⟩ => ⟨h1, MvAt.snoc h r⟩
theorem MvAt.len {H : Hp} : ∀ {ts : List Addr} {ms : List (List V)}, MvAt H ts ms → ts.length = ms.length
  | [], [], _ => rfl
  | t :: ts, m :: ms, ⟨_, r⟩ => by rw [List.length_cons, List.length_cons, r.len]
theorem same_in {H0 H : Hp} {q : Addr} {o : HO} (s : Same H0 H) (h : H0 q = none) : Same H0 (upd H q o) := fun b u e => by
  rw [upd_ne (ne_of_none e h)]
  exact s b u e
theorem line3 {n c : Nat} (h : n ≤ c) (h2 : c ≤ 2000) : n < sizeLine := Nat.lt_of_le_of_lt (Nat.le_trans h h2) (by decide)
noncomputable def Wd (n : Nat) (Pv : Nat → St → List V → Hp → Prop) (i m : Nat) (σ : St) (acc : List V) (H : Hp) : Prop := m = n - i ∧ i ≤ n ∧ Pv i σ acc H
theorem wd_next {n : Nat} {Pv : Nat → St → List V → Hp → Prop} {i : Nat} {σ : St} {acc : List V} {H : Hp} (h : i < n) (p : Pv (i + 1) σ acc H) : ∃ m', m' < n - i ∧ Wd n Pv (i + 1) m' σ acc H := ⟨n - (i + 1), by omega, rfl, h, p⟩
theorem wd_0 {n : Nat} {Pv : Nat → St → List V → Hp → Prop} {σ : St} {acc : List V} {H : Hp} (h : Pv 0 σ acc H) : ∃ m, Wd n Pv 0 m σ acc H := ⟨n, by simp, Nat.zero_le _, h⟩
end Car
namespace L2
open PySem PySem.Spec PyProof.Rows
/-- a statement and what must hold behind it, whatever way it went -/
noncomputable def tMid (t u : TS) : TS := fun D σ H => ∃ N : St → Hp → Prop, t { D with nx := N } σ H ∧ ∀ σ' H', N σ' H' → u D σ' H'
theorem pss_mid {X : Cx} {st : Stmt} {rest : List Stmt} {t u : TS} (h1 : PS X st t) (h2 : PSs X rest u) : PSs X (st :: rest) (tMid t u) := by
  intro pins s σ H D I ⟨N, h, hN⟩
  refine wpAny_execs_cons (thn (h1 pins s σ H { D with nx := N } I h) fun f s1 q => ?_)
  cases f with
  | next =>
    obtain ⟨σ', H', I', q⟩ := q
    exact h2 pins s1 σ' H' D I' (hN σ' H' q)
  | ret v => exact q
  | brk => exact q
  | cont => exact q
theorem same_drop {H H' : Hp} {d : Addr} : Same (drop H d) (drop H' d) ↔ ∀ b o, b ≠ d → H b = some o → H' b = some o := by
  constructor
  · intro s b o hb e
    have := s b o (by rw [drop_ne hb]; exact e)
    rw [drop_ne hb] at this
    exact this
  · intro h b o e
    by_cases hb : b = d
    · rw [hb, drop_same] at e
      cases e
    · rw [drop_ne hb] at e ⊢
      exact h b o hb e
theorem drop_upd {H : Hp} {d p : Addr} {o : HO} (h : p ≠ d) : drop (upd H p o) d = upd (drop H d) p o := by
  funext b
  by_cases h1 : b = d
  · subst h1
    rw [drop_same, upd_ne (Ne.symm h), drop_same]
  · rw [drop_ne h1]
    by_cases h2 : b = p
    · subst h2
      rw [upd_same, upd_same]
    · rw [upd_ne h2, upd_ne h2, drop_ne h1]
end L2
namespace L2
open PySem PySem.Spec PyProof.Rows
theorem drop_le {H : Hp} {d : Addr} : Same (drop H d) H := fun b o e => by
  by_cases hb : b = d
  · rw [hb, drop_same] at e; cases e
  · rw [drop_ne hb] at e; exact e
end L2
namespace Car
open PySem L2
theorem bt_int : bootBuiltins "int" = some (.type "int") := by decide +kernel
structure LawT (mg : Str → Option Value) : Prop where
  len : mg "len" = none
  max : mg "max" = none
  min : mg "min" = none
  range : mg "range" = none
  isin : mg "isinstance" = none
  abs : mg "abs" = none
  tuple : mg "tuple" = none
  list : mg "list" = none
  bool : mg "bool" = none
  int : mg "int" = none
theorem mod_lt (n : Int) {m : Int} (h : 0 < m) : 0 ≤ n % m ∧ n % m < m := ⟨Int.emod_nonneg _ (by omega), Int.emod_lt_of_pos _ h⟩
theorem _root_.L2.Same.drop {H H' : Hp} (s : Same H H') (d : Addr) : Same (L2.drop H d) (L2.drop H' d) := same_drop.mpr fun b o _ e => s b o e
section
variable {P : Program} {w : World} {K : PySem.W.Frag} {mg : Str → Option Value} {base : Heap} {f : Addr} {fd' : FuncData}
end
/-! ### data that is equal to itself -/
mutual
theorem eqv_self : ∀ d : PyData, PyData.canLay0 d = true → PyData.eqv d d = true
  | .none, _ => by rw [PyData.eqv]
  | .bool b, _ => by rw [PyData.eqv]; simp
  | .int i, _ => by rw [PyData.eqv]; simp
  | .str x, _ => by rw [PyData.eqv]; simp
  | .list xs, h => by rw [PyData.canLay0] at h; rw [PyData.eqv]; exact eqvAll_self xs h
  | .tuple xs, h => by rw [PyData.canLay0] at h; rw [PyData.eqv]; exact eqvAll_self xs h
  | .dict _, h => by rw [PyData.canLay0] at h; cases h
theorem eqvAll_self : ∀ xs : List PyData, PyData.canLayAll0 xs = true → PyData.eqvAll xs xs = true
  | [], _ => by rw [PyData.eqvAll]
  | x :: r, h => by
    rw [PyData.canLayAll0, Bool.and_eq_true] at h
    rw [PyData.eqvAll, eqv_self x h.1, eqvAll_self r h.2]
    rfl
end
theorem le1 : 1 ≤ sizeLine := by decide
theorem le2 : 2 ≤ sizeLine := by decide
theorem le3 : 3 ≤ sizeLine := by decide
section
variable {P : Program} {w : World} {K : PySem.W.Frag} {mg : Str → Option Value} {base : Heap} {f : Addr} {fd' : FuncData}
theorem blkC {X : Cx} {scope : Scope} {own capn : List Str} {capI : List Nat} (sc : Scope) (hsc : X.env.scope = sc) (kind : scope.kind = .function) (h : (scope.names.all fun y => decide (y.2 ≠ .cell) && (decide (y.2 = .local → scope.names.lookup y.1 = some .local) && decide (y.2 = .free → sc.names.lookup y.1 = some .cell))) = true) (caps : capI.map (fun i => X.N[i]?) = capn.map some)
    (capc : ∀ y ∈ capn, X.env.scope.names.lookup y = some .cell ∧ (relabel scope X.env).names.lookup y = some .cell) : BlkScope X scope own capn capI := by
  have g : ∀ y ∈ scope.names, y.2 ≠ .cell ∧ (y.2 = .local → scope.names.lookup y.1 = some .local) ∧ (y.2 = .free → sc.names.lookup y.1 = some .cell) := fun y hy => by
    have := List.all_eq_true.mp h y hy
    rw [Bool.and_eq_true, Bool.and_eq_true] at this
    exact ⟨of_decide_eq_true this.1, of_decide_eq_true this.2.1, of_decide_eq_true this.2.2⟩
  exact ⟨kind, fun y hy => (g y hy).1, fun y hy => (g y hy).2.1, fun y hy e => by rw [hsc]; exact (g y hy).2.2 e, caps, capc⟩
end
end Car
namespace L2
open PySem PySem.Spec PyProof.Rows
theorem drop_upd_same {H : Hp} {d : Addr} {o : HO} : drop (upd H d o) d = drop H d := by
  funext b
  by_cases h : b = d
  · rw [h, drop_same, drop_same]
  · rw [drop_ne h, drop_ne h, upd_ne h]
end L2
namespace L2
open PySem PySem.Spec PyProof.Rows
section
variable {X : Cx} {pos : Pos}
end
end L2

set_option maxHeartbeats 1000000
seal L2.PE L2.PT L2.PW L2.PA L2.PS L2.PSs L2.PG L2.PGs L2.PI L2.PSet L2.OpR L2.UnR L2.CallR L2.TruR L2.IxR L2.SlR L2.PO L2.InOp L2.PX L2.PIfs
namespace Car
open PySem L2
noncomputable abbrev sWritten : Stmt := top 12
noncomputable abbrev sName : Stmt := top 13
noncomputable abbrev sNumber : Stmt := top 14
/-! ### words -/
noncomputable abbrev cl (z : Str) : List Nat := z.cps.toList
noncomputable abbrev smallT : Str := "abcdefghijklmnopqrstuvwxyz"
noncomputable abbrev figT : Str := "0123456789"
noncomputable abbrev jointT : Str := "+-*()"
noncomputable def keptW : List Str := ["hold", "fast", "slow", "by", "let", "times", "if", "else", "end", "sub", "call", "x", "y", "z"]
noncomputable def wrt (z s : Str) : Bool := (cl z).all fun c => decide (c ∈ cl s)
noncomputable def nameS (z : Str) : Bool := decide (1 ≤ z.length ∧ z.length ≤ 8) && (wrt z smallT && !inV (.str z) (keptW.map V.str))
noncomputable def numS (z : Str) : Bool := (decide (1 ≤ z.length ∧ z.length ≤ 6) && wrt z figT) && (decide (z = "0") || decide (z.cps[0]? ≠ some 48))
structure WdT (K : PySem.W.Frag) (mg : Str → Option Value) : Prop where
  all : mg "all" = none
  small : ∃ t, mg "SMALL_LETTERS" = some (.str smallT t)
  fig : ∃ t, mg "FIGURES" = some (.str figT t)
  joint : ∃ t, mg "JOINTS" = some (.str jointT t)
  kept : ∃ a, mg "KEPT_WORDS" = some (.ref a) ∧ ∀ H : Hp, SqT K H a (keptW.map V.str)
  ml : ∃ t, mg "MOST_LETTERS" = some (.int 8 t)
  mf : ∃ t, mg "MOST_FIGURES" = some (.int 6 t)
  ms : ∃ t, mg "MOST_SIGNS" = some (.int 60 t)
  mb : ∃ t, mg "MOST_BRACKETS" = some (.int 5 t)
theorem bt_all : bootBuiltins "all" = some (.builtin "all") := by decide +kernel
theorem ndss : (["sign", "signs"] : List Str).Nodup := by decide +kernel
theorem wrt_take {z s : Str} {i c : Nat} (h : z.cps[i]? = some c) : ((cl z).take (i + 1)).map (fun c => decide (c ∈ cl s)) = ((cl z).take i).map (fun c => decide (c ∈ cl s)) ++ [decide (c ∈ cl s)] := by
  have hc : (cl z)[i]? = some c := by simpa using h
  obtain ⟨hl, e⟩ := List.getElem?_eq_some_iff.mp hc
  rw [List.take_succ_eq_append_getElem hl, e, List.map_append]
  rfl
section
variable {P : Program} {w : World} {K : PySem.W.Frag} {mg : Str → Option Value} {base : Heap} {f : Addr} {fd' : FuncData}
noncomputable def spWritten : Sp := fun vs H Q _ => ∃ z s : Str, vs = [.str z, .str s] ∧ z.length ≤ 1000 ∧ ∀ H', Same H H' → Q (.bl (wrt z s)) H'
theorem scWritten : FnScope ["word", "signs"] ["word", "signs"] (defScope sWritten) := ⟨rfl, rfl, rfl, by decide +kernel, rfl, by decide +kernel, by decide +kernel⟩
theorem ok_written (W : WdT K mg) (F : Fun K "is_written_in" "is_written_in" sWritten f fd') : FnOk P w K mg base (CX1 P w) 1 f fd' ["word", "signs"] spWritten := by
  have nd := scWritten.nd
  refine F.ok1 scWritten (fun vs H Q E h => ?_) (fun cdv A outer s H vs Q E hr h => ?_)
  · obtain ⟨z, y, rfl, _⟩ := h
    rfl
  obtain ⟨z, y, rfl, hz, q⟩ := h
  refine ⟨_, (pss_one (ps_ret (pe_callB (call_allB rfl) rfl W.all bt_all (pa_cons (pe_lc (own := ["sign"]) (capn := ["signs"]) (capI := [1]) rfl (blkC (defScope sWritten) rfl rfl (by decide +kernel) rfl (fun y hy => by rcases List.mem_cons.mp hy with rfl | hy; exact ⟨rfl, rfl⟩; cases hy)) (pi_str (pv 0)) (fun _ _ _ _ _ _ => pg_name (i := 0) ndss rfl (Or.inl rfl)) (fun _ _ _ _ _ _ => pifs_nil) (fun _ _ _ _ _ _ => (pe_cmpR op_in_str (pv 0) (pv 1) (by with_unfolding_all rfl)))) pa_nil)))), ?_⟩
  refine ⟨_, rfl, z, rfl, fun D hD => ?_⟩
  refine ⟨Wd z.cps.size (fun i σ acc H2 => ∃ o : Option V, σ = [o, some (.str y)] ∧ acc = (((cl z).take i).map fun c => decide (c ∈ cl y)).map V.bl ∧ Same H H2 ∧ H2 D = some (.lst acc)), wd_0 ⟨none, rfl, rfl, same_upd hD _, upd_same⟩, ?_⟩
  rintro i m σ acc H2 ⟨rfl, hi0, o, rfl, rfl, s2, hD2⟩
  have hl : z.cps.size = z.length := rfl
  refine st_ask hi0 (fun c hc hi => ?_) (fun hend => ?_)
  · refine ⟨_, rfl, _, rfl, _, _, rfl, rfl, hD2, ?_, wd_next hi ⟨_, rfl, ?_, same_in s2 hD, upd_same⟩⟩
    · rw [List.length_map, List.length_map]
      exact line3 (show _ ≤ 1000 by rw [List.length_take]; omega) (by decide)
    · rw [wrt_take hc, List.map_append, StrLaws.found_one]
      rfl
  · refine ⟨D, _, rfl, SqL.of hD2, ?_⟩
    rw [hend, List.take_of_length_le (by simp)]
    have : (((cl z).map fun c => decide (c ∈ cl y)).all id) = wrt z y := by
      rw [List.all_map]
      rfl
    rw [this]
    exact q _ s2
noncomputable def spName : Sp := fun vs H Q _ => ∃ z : Str, vs = [.str z] ∧ z.length ≤ 1000 ∧ ∀ H', Same H H' → Q (.bl (nameS z)) H'
theorem scName : FnScope ["word"] ["word"] (defScope sName) := ⟨rfl, rfl, rfl, by decide +kernel, rfl, by decide +kernel, by decide +kernel⟩
theorem kept_flat : (keptW.map V.str).all flatV = true := by decide +kernel
theorem ok_name (T : LawT mg) (W : WdT K mg) (FW : Fn P w K mg base "is_written_in" 1 ["word", "signs"] spWritten) (F : Fun K "is_name" "is_name" sName f fd') : FnOk P w K mg base (CX1 P w) 2 f fd' ["word"] spName := by
  have nd := scName.nd
  refine F.ok1 scName (fun vs H Q E h => ?_) (fun cdv A outer s H vs Q E hr h => ?_)
  · obtain ⟨z, rfl, _⟩ := h
    rfl
  obtain ⟨z, rfl, hz, q⟩ := h
  obtain ⟨t1, g1⟩ := W.ml
  obtain ⟨t2, g2⟩ := W.small
  obtain ⟨a, g3, hk⟩ := W.kept
  have hz' : z.length ≤ sizeLine := Nat.le_of_lt (line3 hz (by decide))
  refine ⟨_, (pss_one (ps_ret (pe_and (pe_chain op_le op_le pe_int (pe_callB call_len_str rfl T.len PySem.boot_len (pa_cons (pv 0) pa_nil)) (pe_glob (v := .int 8) rfl g1 ⟨_, rfl⟩)) (pe_and (pf_call FW hr rfl (pass1 (E := E)) (pa_cons (pv 0) (pa_cons (pe_glob (v := .str smallT) rfl g2 ⟨_, rfl⟩) pa_nil))) (pe_one (pe_cmpR op_notIn_seq (pv 0) (pe_glob (v := .ref a) rfl g3 rfl) (by with_unfolding_all rfl))))))), ?_⟩
  refine ⟨_, rfl, z, rfl, hz', _, _, rfl, rfl, _, rfl, ?_⟩
  have fin : ∀ (b c : Bool), decide (1 ≤ z.length ∧ z.length ≤ 8) = b → (b = true → c = (wrt z smallT && !inV (.str z) (keptW.map V.str))) → (b = false → c = false) → c = nameS z := fun b c h1 h2 h3 => by
    unfold nameS
    rw [h1]
    cases b with
    | true => rw [h2 rfl]; rfl
    | false => rw [h3 rfl]; rfl
  refine ite2 (fun c1 => ?_) (fun c1 => ?_)
  · have c1' : (1 : Int) ≤ (z.length : Int) := of_decide_eq_true c1
    refine ⟨_, _, rfl, rfl, _, rfl, ?_⟩
    refine ite2 (fun c2 => ?_) (fun c2 => ?_)
    · have c2' : (z.length : Int) ≤ 8 := of_decide_eq_true c2
      have hb : decide (1 ≤ z.length ∧ z.length ≤ 8) = true := decide_eq_true (by omega)
      refine ⟨_, rfl, z, smallT, rfl, hz, fun H1 s1 => ⟨_, rfl, ?_⟩⟩
      refine ite2 (fun c3 => ?_) (fun c3 => ?_)
      · refine ⟨_, rfl, a, _, rfl, .inr (hk _), rfl, kept_flat, ?_⟩
        show Q (.bl (!inV (.str z) (keptW.map V.str))) H1
        rw [fin true (!inV (.str z) (keptW.map V.str)) hb (fun _ => by rw [c3]; rfl) (fun h => by cases h)]
        exact q _ s1
      · rw [fin true false hb (fun _ => by rw [Bool.eq_false_iff.mpr c3]; rfl) (fun h => by cases h)]
        exact q _ s1
    · have c2' : ¬ (z.length : Int) ≤ 8 := fun h => c2 (decide_eq_true h)
      rw [fin false false (decide_eq_false (by omega)) (fun h => by cases h) (fun _ => rfl)]
      exact q _ (Same.refl _)
  · have c1' : ¬ (1 : Int) ≤ (z.length : Int) := fun h => c1 (decide_eq_true h)
    refine ⟨_, rfl, iteF ?_⟩
    rw [fin false false (decide_eq_false (by omega)) (fun h => by cases h) (fun _ => rfl)]
    exact q _ (Same.refl _)
noncomputable def spNumber : Sp := fun vs H Q _ => ∃ z : Str, vs = [.str z] ∧ z.length ≤ 1000 ∧ ∀ H', Same H H' → Q (.bl (numS z)) H'
theorem scNumber : FnScope ["word"] ["word"] (defScope sNumber) := ⟨rfl, rfl, rfl, by decide +kernel, rfl, by decide +kernel, by decide +kernel⟩
theorem decS (x y : Str) : decide (V.str x = V.str y) = decide (x = y) := by
  by_cases h : x = y
  · rw [decide_eq_true h, decide_eq_true (by rw [h])]
  · rw [decide_eq_false h, decide_eq_false (fun z => h (by injection z))]
theorem one_zero (c : Nat) : decide ((⟨#[c]⟩ : Str) = "0") = decide (c = 48) := by
  by_cases h : c = 48
  · subst h
    rw [decide_eq_true rfl]
    decide +kernel
  · rw [decide_eq_false h]
    refine decide_eq_false fun z => h ?_
    have : (⟨#[c]⟩ : Str).cps = (Str.ofString "0").cps := by rw [z]
    have e : (Str.ofString "0").cps = #[48] := by decide +kernel
    rw [e] at this
    simpa using this
theorem ok_number (T : LawT mg) (W : WdT K mg) (FW : Fn P w K mg base "is_written_in" 1 ["word", "signs"] spWritten) (F : Fun K "is_number" "is_number" sNumber f fd') : FnOk P w K mg base (CX1 P w) 2 f fd' ["word"] spNumber := by
  have nd := scNumber.nd
  refine F.ok1 scNumber (fun vs H Q E h => ?_) (fun cdv A outer s H vs Q E hr h => ?_)
  · obtain ⟨z, rfl, _⟩ := h
    rfl
  obtain ⟨z, rfl, hz, q⟩ := h
  obtain ⟨t1, g1⟩ := W.mf
  obtain ⟨t2, g2⟩ := W.fig
  have hz' : z.length ≤ sizeLine := Nat.le_of_lt (line3 hz (by decide))
  refine ⟨_, (pss_mid (ps_if (PW.pt (pw_or (pt_not (pt_chain op_le op_le pe_int (pe_callB call_len_str rfl T.len PySem.boot_len (pa_cons (pv 0) pa_nil)) (pe_glob (v := .int 6) rfl g1 ⟨_, rfl⟩))) (pw_or1 (pt_not (pt_truth (pf_call FW hr rfl (pass1 (E := E)) (pa_cons (pv 0) (pa_cons (pe_glob (v := .str figT) rfl g2 ⟨_, rfl⟩) pa_nil))) (fun _ => rfl)))))) (pss_one (ps_ret pe_bl)) pss_nil)
    (pss_one (ps_ret (pe_or (pe_cmpR op_eq (pv 0) pe_str (nomark _)) (pe_one (pe_cmpR op_ne (pe_ix ix_str (pv 0) pe_int (fun _ _ => rfl)) pe_str (nomark _))))))), ?_⟩
  refine ⟨fun σ H1 => σ = [some (.str z)] ∧ Same H H1 ∧ 1 ≤ z.length ∧ z.length ≤ 6 ∧ wrt z figT = true, ?_, ?_⟩
  · refine ⟨_, rfl, z, rfl, hz', _, _, rfl, rfl, _, rfl, ?_⟩
    refine ite2 (fun c1 => ?_) (fun c1 => ?_)
    · have c1' : (1 : Int) ≤ (z.length : Int) := of_decide_eq_true c1
      refine ⟨_, _, rfl, rfl, _, rfl, ?_⟩
      by_cases c2 : (z.length : Int) ≤ 6
      · rw [decide_eq_true c2]
        refine iteF ⟨_, rfl, z, figT, rfl, hz, fun H1 s1 => ⟨_, rfl, ?_⟩⟩
        cases c3 : wrt z figT with
        | true => exact iteF ⟨rfl, s1, by omega, by omega, rfl⟩
        | false =>
          refine iteT ?_
          have e : numS z = false := by unfold numS; rw [c3, Bool.and_false, Bool.false_and]
          rw [e] at q
          exact q _ s1
      · rw [decide_eq_false c2]
        refine iteT (iteT ?_)
        have e : numS z = false := by unfold numS; rw [decide_eq_false (by omega), Bool.false_and, Bool.false_and]
        rw [e] at q
        exact q _ (Same.refl _)
    · have c1' : ¬ (1 : Int) ≤ (z.length : Int) := fun h => c1 (decide_eq_true h)
      refine ⟨_, rfl, iteT (iteT ?_)⟩
      have e : numS z = false := by unfold numS; rw [decide_eq_false (by omega), Bool.false_and, Bool.false_and]
      rw [e] at q
      exact q _ (Same.refl _)
  rintro σ H1 ⟨rfl, s1, z1, z6, hw⟩
  have e0 : numS z = (decide (z = "0") || decide (z.cps[0]? ≠ some 48)) := by
    unfold numS
    rw [hw, decide_eq_true ⟨z1, z6⟩]
    rfl
  refine ⟨_, rfl, rfl, _, rfl, ?_⟩
  rw [decS]
  refine ite2 (fun c => ?_) (fun c => ?_)
  · rw [c, Bool.true_or] at e0
    rw [e0] at q
    exact q _ s1
  · obtain ⟨c0, hc0⟩ : ∃ c0, z.cps[0]? = some c0 := ⟨z.cps[0]'(by show 0 < z.length; omega), Array.getElem?_eq_getElem _⟩
    refine ⟨_, rfl, z, 0, c0, rfl, rfl, hz', (show atI _ ((0 : Nat) : Int) = _ from atI_nat (by simpa using hc0)), rfl, ?_⟩
    rw [decS, one_zero]
    rw [Bool.eq_false_iff.mpr c, Bool.false_or, hc0] at e0
    have e1 : decide (some c0 ≠ some 48) = !decide (c0 = 48) := by
      by_cases h : c0 = 48
      · subst h; rfl
      · have h' : some c0 ≠ some 48 := fun z => h (Option.some.inj z)
        rw [decide_eq_true h', decide_eq_false h]; rfl
    rw [e1] at e0
    rw [e0] at q
    exact q _ s1
end
end Car

set_option maxHeartbeats 1000000
namespace Car
open PySem L2
noncomputable abbrev sScanI : Stmt := inClass (top 15) 0
noncomputable abbrev sAhead : Stmt := inClass (top 15) 1
noncomputable abbrev sTakeS : Stmt := inClass (top 15) 2
noncomputable abbrev sTerms : Stmt := inClass (top 15) 3
noncomputable abbrev sFactors : Stmt := inClass (top 15) 4
noncomputable abbrev sFactor : Stmt := inClass (top 15) 5
noncomputable abbrev sBrackets : Stmt := inClass (top 15) 6
noncomputable abbrev sPiece : Stmt := inClass (top 15) 7
noncomputable abbrev sExpr : Stmt := top 16
/-! ### the sign at a place -/
noncomputable def sg (z : Str) (a : Nat) : Str := Txt.slice z (some (a : Int)) (some ((a : Int) + 1))
theorem sg_some {z : Str} {a c : Nat} (h : z.cps[a]? = some c) : sg z a = ⟨#[c]⟩ := by
  have hl : a < z.cps.size := (Array.getElem?_eq_some_iff.mp h).1
  have e : sg z a = ⟨((z.cps.toList.drop a).take 1).toArray⟩ := by
    have := StrLaws.sliceText_plain (x := z) (i := (a : Int)) (j := (a : Int) + 1) ⟨by omega, by omega, by simp; omega⟩
    rw [show ((a : Int) + 1 - (a : Int)).toNat = 1 by omega, Int.toNat_natCast] at this
    exact this
  rw [e]
  have hc : z.cps.toList[a]? = some c := by simpa using h
  obtain ⟨hl2, e2⟩ := List.getElem?_eq_some_iff.mp hc
  rw [List.drop_eq_getElem_cons hl2, List.take_succ_cons, List.take_zero, e2]
theorem sg_none {z : Str} {a : Nat} (h : z.cps.size ≤ a) : sg z a = Str.empty := by
  have e : Builtin.Str.strSliceIndices (some (a : Int)) (some ((a : Int) + 1)) 1 z.length = [] := by
    unfold Builtin.Str.strSliceIndices
    have h' : z.length ≤ a := h
    simp only [show (1 : Int) > 0 by decide, if_true, if_neg (show ¬ (a : Int) < 0 by omega), if_neg (show ¬ (a : Int) + 1 < 0 by omega)]
    rw [show max (0 : Int) (min (a : Int) (z.length : Int)) = z.length by omega, show max (0 : Int) (min ((a : Int) + 1) (z.length : Int)) = z.length by omega]
    unfold sliceRange
    simp
  unfold sg Txt.slice
  rw [e]
  split
  · rename_i c
    have : z.cps.size = 0 := by
      have c2 : ((0 : Nat) == z.length) = true := by simpa using c
      exact (eq_of_beq c2).symm
    apply Str.ext'
    exact Array.eq_empty_of_size_eq_zero this
  · rfl
/-- where a piece ends -/
noncomputable def pcE (z : Str) : Nat → Nat → Nat
  | 0, a => a
  | n + 1, a => match z.cps[a]? with
    | none => a
    | some c => if c ∈ cl jointT then a else pcE z n (a + 1)
noncomputable abbrev pE (z : Str) (a : Nat) : Nat := pcE z (z.length - a) a
noncomputable def piece (z : Str) (a : Nat) : Str := Txt.slice z (some (a : Int)) (some (pE z a : Int))
theorem pcE_le (z : Str) : ∀ n a, a ≤ pcE z n a ∧ (a ≤ z.length → pcE z n a ≤ z.length)
  | 0, a => ⟨Nat.le_refl _, id⟩
  | n + 1, a => by
    unfold pcE
    cases h : z.cps[a]? with
    | none => exact ⟨Nat.le_refl _, id⟩
    | some c =>
      have hl : a < z.cps.size := (Array.getElem?_eq_some_iff.mp h).1
      show a ≤ (if c ∈ cl jointT then a else pcE z n (a + 1)) ∧ (a ≤ z.length → (if c ∈ cl jointT then a else pcE z n (a + 1)) ≤ z.length)
      split
      · exact ⟨Nat.le_refl _, id⟩
      · obtain ⟨h1, h2⟩ := pcE_le z n (a + 1)
        exact ⟨by omega, fun _ => h2 hl⟩
/-! ### the scan on the heap -/
noncomputable def fsS (z : Str) (a b : Nat) : List (Str × V) := [("word", .str z), ("at", .int a), ("brackets", .int b)]
structure ScT (K : PySem.W.Frag) (C : Addr) : Prop where
  cl : Cls K C
  nWord : NoAttr K C "word"
  nAt : NoAttr K C "at"
  nBr : NoAttr K C "brackets"
noncomputable def ScAt (C : Addr) (H : Hp) (x : Addr) (z : Str) (a b : Nat) : Prop := ∃ dx, H x = some (.ins C dx (fsS z a b))
theorem same_dropU {H : Hp} {x : Addr} {o : HO} : Same (drop H x) (drop (upd H x o) x) := by rw [drop_upd_same]; exact Same.refl _
section
variable {P : Program} {w : World} {K : PySem.W.Frag} {mg : Str → Option Value} {base : Heap} {C f : Addr} {fd' : FuncData}
/-! __init__ -/
noncomputable def spScanI (C : Addr) : Sp := fun vs H Q _ => ∃ x dx z, vs = [.ref x, .str z] ∧ H x = some (.ins C dx []) ∧ Q .non (upd H x (.ins C dx (fsS z 0 0)))
theorem scScanI : FnScope ["self", "word"] ["self", "word"] (defScope sScanI) := ⟨rfl, rfl, rfl, by decide +kernel, rfl, by decide +kernel, by decide +kernel⟩
theorem ok_scanI (T : ScT K C) (F : Fun K "__init__" "Scan.__init__" sScanI f fd') : FnOk P w K mg base (CX1 P w) 1 f fd' ["self", "word"] (spScanI C) := by
  refine F.ok1 scScanI (fun vs H Q E h => ?_) (fun cdv A outer s H vs Q E hr h => ?_)
  · obtain ⟨x, dx, z, rfl, _⟩ := h
    rfl
  obtain ⟨x, dx, z, rfl, hx, q⟩ := h
  refine ⟨_, (pss_cons (ps_fld (pv 0) (pv 1) rfl) (pss_cons (ps_fld (pv 0) pe_int rfl) (pss_one (ps_fld (pv 0) pe_int rfl)))), ?_⟩
  refine ⟨_, rfl, _, rfl, x, C, dx, _, rfl, hx, T.cl, T.nWord, (by decide), ?_⟩
  refine ⟨_, rfl, x, C, dx, _, rfl, upd_same, T.cl, T.nAt, (by show 1 < 1000; decide), ?_⟩
  refine ⟨_, rfl, x, C, dx, _, rfl, upd_same, T.cl, T.nBr, (by show 2 < 1000; decide), ?_⟩
  rw [upd_upd, upd_upd]
  exact q
/-! sign_ahead -/
noncomputable def spAhead (C : Addr) : Sp := fun vs H Q _ => ∃ x z a b, vs = [.ref x] ∧ ScAt C H x z a b ∧ z.length ≤ 1000 ∧ Q (.str (sg z a)) H
theorem scAhead : FnScope ["self"] ["self"] (defScope sAhead) := ⟨rfl, rfl, rfl, by decide +kernel, rfl, by decide +kernel, by decide +kernel⟩
theorem ok_ahead (T : ScT K C) (F : Fun K "sign_ahead" "Scan.sign_ahead" sAhead f fd') : FnOk P w K mg base (CX1 P w) 1 f fd' ["self"] (spAhead C) := by
  refine F.ok1 scAhead (fun vs H Q E h => ?_) (fun cdv A outer s H vs Q E hr h => ?_)
  · obtain ⟨x, z, a, b, rfl, _⟩ := h
    rfl
  obtain ⟨x, z, a, b, rfl, ⟨dx, hx⟩, hz, q⟩ := h
  refine ⟨_, (pss_one (ps_ret (pe_slice sl_str (pe_fld (pv 0) rfl) (po_some (pe_fld (pv 0) rfl)) (po_some (pe_op op_add (pe_fld (pv 0) rfl) pe_int))))), ?_⟩
  exact ⟨_, rfl, _, _, _, _, _, rfl, hx, T.cl, T.nWord, rfl, _, rfl, _, _, _, _, _, rfl, hx, T.cl, T.nAt, rfl, _, rfl, _, rfl, _, _, _, _, _, rfl, hx, T.cl, T.nAt, rfl, _, _, rfl, rfl, _, rfl, z, rfl, Nat.le_of_lt (line3 hz (by decide)), q⟩
/-! take_sign -/
noncomputable def spTakeS (C : Addr) : Sp := fun vs H Q _ => ∃ x z a b, vs = [.ref x] ∧ ScAt C H x z a b ∧ z.length ≤ 1000 ∧ ∀ H', Same (drop H x) (drop H' x) → ScAt C H' x z (a + 1) b → Q (.str (sg z a)) H'
theorem scTakeS : FnScope ["self", "sign"] ["self"] (defScope sTakeS) := ⟨rfl, rfl, rfl, by decide +kernel, rfl, by decide +kernel, by decide +kernel⟩
theorem ok_takeS (T : ScT K C) (MA : Mt P w K mg base C "sign_ahead" 1 ["self"] (spAhead C)) (F : Fun K "take_sign" "Scan.take_sign" sTakeS f fd') : FnOk P w K mg base (CX1 P w) 2 f fd' ["self"] (spTakeS C) := by
  have nd := scTakeS.nd
  refine F.ok1 scTakeS (fun vs H Q E h => ?_) (fun cdv A outer s H vs Q E hr h => ?_)
  · obtain ⟨x, z, a, b, rfl, _⟩ := h
    rfl
  obtain ⟨x, z, a, b, rfl, ⟨dx, hx⟩, hz, q⟩ := h
  refine ⟨_, (pss_cons (ps_set (i := 1) nd rfl (Or.inl rfl) (pf_meth0 MA (pv 0) hr (pass1 (E := E)))) (pss_cons (ps_fldaug (pv 0) pe_int in_add) (pss_one (ps_ret (pv 1))))), ?_⟩
  refine ⟨_, rfl, _, _, _, rfl, hx, rfl, x, z, a, b, rfl, ⟨dx, hx⟩, hz, ?_⟩
  refine ⟨_, rfl, _, _, _, _, _, rfl, hx, T.cl, T.nAt, rfl, _, _, rfl, rfl, _, _, hx, (by show 3 < 1000; decide), ?_⟩
  refine ⟨_, rfl, q _ same_dropU ⟨dx, ?_⟩⟩
  exact upd_same
/-! take_piece -/
noncomputable def spPiece (C : Addr) : Sp := fun vs H Q _ => ∃ x z a b, vs = [.ref x] ∧ ScAt C H x z a b ∧ z.length ≤ 1000 ∧ ∀ H', Same (drop H x) (drop H' x) → ScAt C H' x z (pE z a) b → Q (.str (piece z a)) H'
theorem scPiece : FnScope ["self", "start"] ["self"] (defScope sPiece) := ⟨rfl, rfl, rfl, by decide +kernel, rfl, by decide +kernel, by decide +kernel⟩
theorem ok_piece (TT : LawT mg) (W : WdT K mg) (T : ScT K C) (MA : Mt P w K mg base C "sign_ahead" 1 ["self"] (spAhead C)) (F : Fun K "take_piece" "Scan.take_piece" sPiece f fd') : FnOk P w K mg base (CX1 P w) 2 f fd' ["self"] (spPiece C) := by
  have nd := scPiece.nd
  refine F.ok1 scPiece (fun vs H Q E h => ?_) (fun cdv A outer s H vs Q E hr h => ?_)
  · obtain ⟨x, z, a, b, rfl, _⟩ := h
    rfl
  obtain ⟨x, z, a, b, rfl, hx, hz, q⟩ := h
  obtain ⟨t1, g1⟩ := W.joint
  have hz' : z.length ≤ sizeLine := Nat.le_of_lt (line3 hz (by decide))
  refine ⟨_, (pss_cons (ps_set (i := 1) nd rfl (Or.inl rfl) (pe_fld (pv 0) rfl))
    (pss_cons (ps_while own1 (PW.pt (pw_and (pt_cmpR op_lt (pe_fld (pv 0) rfl) (pe_callB call_len_str rfl TT.len PySem.boot_len (pa_cons (pe_fld (pv 0) rfl) pa_nil)) (nomark _)) (pw_and1 (pt_cmpR op_notIn_str (pf_meth0 MA (pv 0) hr (pass1 (E := E))) (pe_glob (v := .str jointT) rfl g1 ⟨_, rfl⟩) (by with_unfolding_all rfl))))) (pss_one (ps_fldaug (pv 0) pe_int in_add)))
    (pss_one (ps_ret (pe_slice sl_str (pe_fld (pv 0) rfl) (po_some (pv 1)) (po_some (pe_fld (pv 0) rfl))))))), ?_⟩
  obtain ⟨dx, hx'⟩ := hx
  refine ⟨_, rfl, _, _, _, _, _, rfl, hx', T.cl, T.nAt, rfl, ?_⟩
  refine ⟨fun m σ H1 => ∃ k, σ = [some (.ref x), some (.int (a : Int))] ∧ m = z.length - k ∧ Same (drop H x) (drop H1 x) ∧ ScAt C H1 x z k b ∧ pcE z (z.length - k) k = pE z a, ⟨_, a, rfl, rfl, Same.refl _, ⟨dx, hx'⟩, rfl⟩, ?_⟩
  rintro m σ H1 ⟨k, rfl, rfl, s1, ⟨dx, hx⟩, hp⟩
  have fin : pE z a = k → tRet (tSl rSlS (tFld K (tVar 0) "word") (tPart (tVar 1)) (tPart (tFld K (tVar 0) "at"))) { nx := fun _ H' => Q .non H', rt := Q } [some (.ref x), some (.int (a : Int))] H1 := fun e => by
    refine ⟨_, rfl, _, _, _, _, _, rfl, hx, T.cl, T.nWord, rfl, _, rfl, _, rfl, _, rfl, _, _, _, _, _, rfl, hx, T.cl, T.nAt, rfl, _, rfl, z, rfl, hz', ?_⟩
    have q' := q H1 s1 ⟨dx, by rw [e]; exact hx⟩
    unfold piece at q'
    rw [e] at q'
    exact q'
  refine ⟨_, rfl, _, _, _, _, _, rfl, hx, T.cl, T.nAt, rfl, _, rfl, _, _, _, _, _, rfl, hx, T.cl, T.nWord, rfl, z, rfl, hz', _, _, rfl, rfl, _, rfl, ?_⟩
  refine ite2 (fun c1 => ?_) (fun c1 => ?_)
  · have c1' : k < z.length := by have : (k : Int) < (z.length : Int) := of_decide_eq_true c1; omega
    have hc := Array.getElem?_eq_getElem (xs := z.cps) (i := k) c1'
    refine ⟨_, rfl, _, _, _, rfl, hx, rfl, x, z, k, b, rfl, ⟨dx, hx⟩, hz, _, _, rfl, rfl, _, rfl, ?_⟩
    rw [sg_some hc, StrLaws.found_one]
    rw [show z.length - k = (z.length - (k + 1)) + 1 by omega, pcE, hc] at hp
    by_cases c2 : z.cps[k] ∈ cl jointT
    · rw [decide_eq_true c2]
      refine iteF (fin ?_)
      have hp' : (if z.cps[k] ∈ cl jointT then k else pcE z (z.length - (k + 1)) (k + 1)) = pE z a := hp
      rw [if_pos c2] at hp'
      exact hp'.symm
    · rw [decide_eq_false c2]
      have hp' : (if z.cps[k] ∈ cl jointT then k else pcE z (z.length - (k + 1)) (k + 1)) = pE z a := hp
      rw [if_neg c2] at hp'
      refine iteT ⟨fun σ H2 => ∃ k', k' = k + 1 ∧ σ = [some (.ref x), some (.int (a : Int))] ∧ Same (drop H x) (drop H2 x) ∧ ScAt C H2 x z k' b, fun σ' H2 ⟨k', e, r1, r2, r3⟩ => ⟨z.length - (k + 1), by omega, k + 1, r1, rfl, r2, by rw [← e]; exact r3, hp'⟩, ?_⟩
      refine ⟨_, rfl, _, _, _, _, _, rfl, hx, T.cl, T.nAt, rfl, _, _, rfl, rfl, _, _, hx, (by show 3 < 1000; decide), k + 1, rfl, rfl, s1.trans same_dropU, dx, ?_⟩
      exact upd_same
  · have c1' : ¬ k < z.length := fun h => c1 (decide_eq_true (by show (k : Int) < (z.length : Int); omega))
    refine iteF (fin ?_)
    rw [show z.length - k = 0 by omega, pcE] at hp
    exact hp.symm
end
end Car

set_option maxHeartbeats 1000000
namespace Car
open PySem L2
/-! ### what a word is read as -/
inductive Ex where
  | num (n : Int)
  | nam (x : Str)
  | bin (s : Str) (a b : Ex)
noncomputable def Ex.dat : Ex → PyData
  | .num n => .tuple [.str "number", .int n]
  | .nam x => .tuple [.str "name", .str x]
  | .bin s a b => .tuple [.str s, a.dat, b.dat]
noncomputable abbrev Rd1 := Option (Ex × Nat)
noncomputable def numV (p : Str) : Int := ((PySem.NumText.digitsVal (cl p) : Nat) : Int)
noncomputable def leaf (z : Str) (a : Nat) : Rd1 := if numS (piece z a) = true then some (.num (numV (piece z a)), pE z a) else if nameS (piece z a) = true then some (.nam (piece z a), pE z a) else none
/-- brackets: behind the opening one stands what inner reads -/
noncomputable def brk (z : Str) (inner : Nat → Rd1) (a : Nat) : Rd1 := match inner (a + 1) with
  | none => none
  | some (e, a1) => if sg z a1 = ")" then some (e, a1 + 1) else none
noncomputable def fac (z : Str) (inner : Nat → Rd1) (a : Nat) : Rd1 := if sg z a = "(" then brk z inner a else leaf z a
/-- like signs, from left to right -/
noncomputable def lp (z : Str) (p : Nat → Rd1) (S : Str → Bool) : Nat → Ex → Nat → Rd1
  | 0, e, a => some (e, a)
  | n + 1, e, a => if S (sg z a) = true then match p (a + 1) with
      | none => none
      | some (f, a1) => lp z p S n (.bin (sg z a) e f) a1
    else some (e, a)
noncomputable def row (z : Str) (p : Nat → Rd1) (S : Str → Bool) (a : Nat) : Rd1 := match p a with
  | none => none
  | some (e, a1) => lp z p S (z.length + 1) e a1
noncomputable def isStar (x : Str) : Bool := decide (x = "*")
noncomputable def isSum (x : Str) : Bool := decide (x = "+") || decide (x = "-")
noncomputable def terms (z : Str) (inner : Nat → Rd1) : Nat → Rd1 := row z (row z (fac z inner) isStar) isSum
/-- d brackets more at the most -/
noncomputable def parse (z : Str) : Nat → Nat → Rd1
  | 0 => terms z fun _ => none
  | d + 1 => terms z (parse z d)
/-- what reads the brackets' inner -/
noncomputable def inn (z : Str) : Nat → Nat → Rd1
  | 0 => fun _ => none
  | d + 1 => parse z d
theorem parse_inn (z : Str) (d : Nat) : parse z d = terms z (inn z d) := by cases d <;> rfl
/-! no reading goes back -/
noncomputable def Fwd (p : Nat → Rd1) : Prop := ∀ a e a1, p a = some (e, a1) → a ≤ a1
theorem fwd_leaf (z : Str) : Fwd (leaf z) := fun a e a1 h => by
  have hp := (pcE_le z (z.length - a) a).1
  unfold leaf at h
  split at h
  · cases h; exact hp
  · split at h
    · cases h; exact hp
    · cases h
theorem fwd_brk {z : Str} {p : Nat → Rd1} (h : Fwd p) : Fwd (brk z p) := fun a e a1 q => by
  unfold brk at q
  cases hp : p (a + 1) with
  | none => rw [hp] at q; cases q
  | some r =>
    obtain ⟨f, b⟩ := r
    have := h _ _ _ hp
    rw [hp] at q
    have q' : (if sg z b = ")" then some (f, b + 1) else none) = some (e, a1) := q
    split at q'
    · cases q'; omega
    · cases q'
theorem fwd_fac {z : Str} {p : Nat → Rd1} (h : Fwd p) : Fwd (fac z p) := fun a e a1 q => by
  unfold fac at q
  split at q
  · exact fwd_brk h _ _ _ q
  · exact fwd_leaf z _ _ _ q
theorem fwd_lp {z : Str} {p : Nat → Rd1} {S : Str → Bool} (h : Fwd p) : ∀ n e a e1 a1, lp z p S n e a = some (e1, a1) → a ≤ a1
  | 0, e, a, e1, a1, q => by cases q; exact Nat.le_refl _
  | n + 1, e, a, e1, a1, q => by
    unfold lp at q
    split at q
    · cases hp : p (a + 1) with
      | none => rw [hp] at q; cases q
      | some r =>
        obtain ⟨f, b⟩ := r
        have h1 := h _ _ _ hp
        rw [hp] at q
        have h2 := fwd_lp h n _ _ _ _ q
        omega
    · cases q; exact Nat.le_refl _
theorem fwd_row {z : Str} {p : Nat → Rd1} {S : Str → Bool} (h : Fwd p) : Fwd (row z p S) := fun a e a1 q => by
  unfold row at q
  cases hp : p a with
  | none => rw [hp] at q; cases q
  | some r =>
    obtain ⟨f, b⟩ := r
    have h1 := h _ _ _ hp
    rw [hp] at q
    have h2 := fwd_lp h _ _ _ _ _ q
    omega
theorem fwd_terms {z : Str} {p : Nat → Rd1} (h : Fwd p) : Fwd (terms z p) := fwd_row (fwd_row (fwd_fac h))
theorem fwd_none : Fwd fun _ => none := fun _ _ _ q => by cases q
theorem fwd_parse (z : Str) : ∀ d, Fwd (parse z d)
  | 0 => fwd_terms fwd_none
  | d + 1 => fwd_terms (fwd_parse z d)
theorem fwd_inn (z : Str) : ∀ d, Fwd (inn z d)
  | 0 => fwd_none
  | d + 1 => fwd_parse z d
/-- a number's text is one for int -/
theorem numS_int {p : Str} (h : numS p = true) : PySem.intText? p = some (numV p) ∧ p.length ≤ 6 := by
  unfold numS at h
  rw [Bool.and_eq_true, Bool.and_eq_true] at h
  obtain ⟨⟨h1, h2⟩, _⟩ := h
  obtain ⟨l1, l6⟩ := of_decide_eq_true h1
  refine ⟨PySem.intText_digits (x := p) ?_ ?_ (by omega), l6⟩
  · intro c hc
    unfold wrt at h2
    have := of_decide_eq_true (List.all_eq_true.mp h2 c hc)
    have e : cl figT = [48, 49, 50, 51, 52, 53, 54, 55, 56, 57] := by decide +kernel
    rw [e] at this
    simp at this
    omega
  · intro z
    have : p.cps.size = 0 := by have := congrArg List.length z; simpa using this
    have : p.length = 0 := this
    omega
end Car

set_option maxHeartbeats 1000000
namespace Car
open PySem L2
section
variable {P : Program} {w : World} {K : PySem.W.Frag} {mg : Str → Option Value} {base : Heap} {C CN f : Addr} {fd' : FuncData}
/-- what a reading comes to -/
noncomputable def Out (K : PySem.W.Frag) (C CN : Addr) (H : Hp) (x : Addr) (z : Str) (b : Nat) (Q : VK) (E : XK) : Rd1 → Prop
  | some (e, a1) => ∀ v H', Same (drop H x) (drop H' x) → ScAt C H' x z a1 b → Rp K (drop H' x) v e.dat → Q v H'
  | none => ∀ H', Same (drop H x) (drop H' x) → E (.ref CN) none H'
theorem Out.to {H H1 : Hp} {x : Addr} {z : Str} {b : Nat} {Q : VK} {E : XK} (s : Same (drop H x) (drop H1 x)) : ∀ {r : Rd1}, Out K C CN H x z b Q E r → Out K C CN H1 x z b Q E r
  | some (_, _), h => fun v H' s' => h v H' (s.trans s')
  | none, h => fun H' s' => h H' (s.trans s')
noncomputable def spPar (K : PySem.W.Frag) (C CN : Addr) (d : Nat) (p : Str → Nat → Rd1) : Sp := fun vs H Q E => ∃ x z a b, vs = [.ref x] ∧ ScAt C H x z a b ∧ b + d = 5 ∧ z.length ≤ 1000 ∧ (∀ c ∈ cl z, c < 16 ^ 8) ∧ Out K C CN H x z b Q E (p z a)
/-- NoRow, as it is raised -/
structure RowT (K : PySem.W.Frag) (mg : Str → Option Value) (base : Heap) (CN : Addr) : Prop where
  own : ∃ bm, PyProof.Rows.OwnCls "NoRow" CN bm "ValueError.__new__" mg base ∧ PySem.ExcBaseFacts "ValueError" "ValueError.__new__" "ValueError.__init__" bm
theorem star_some {z : Str} {k n : Nat} (h : z.length < n + k) {S : Str → Bool} (hS : S Str.empty = false) (c : S (sg z k) = true) : ∃ n', n = n' + 1 := by
  cases n with
  | zero =>
    rw [sg_none (show z.cps.size ≤ k by have : z.length = z.cps.size := rfl; omega), hS] at c
    cases c
  | succ n => exact ⟨n, rfl⟩
theorem drop_tup {H : Hp} {x t : Addr} {o : HO} {u : HO} (hx : H x = some u) (ht : H t = none) : drop (upd H t o) x = upd (drop H x) t o := drop_upd (fun e => by rw [e, hx] at ht; cases ht)
theorem drop_none {H : Hp} {x t : Addr} (ht : H t = none) : drop H x t = none := by
  by_cases e : t = x
  · rw [e, drop_same]
  · rw [drop_ne e]; exact ht
/-! take_factors -/
theorem scFactors : FnScope ["self", "told", "sign"] ["self"] (defScope sFactors) := ⟨rfl, rfl, rfl, by decide +kernel, rfl, by decide +kernel, by decide +kernel⟩
theorem ok_factors {d l : Nat} (hl : 2 ≤ l) (T : ScT K C) (MA : Mt P w K mg base C "sign_ahead" 1 ["self"] (spAhead C)) (MS : Mt P w K mg base C "take_sign" 2 ["self"] (spTakeS C))
    (MF : Mt P w K mg base C "take_factor" l ["self"] (spPar K C CN d fun z => fac z (inn z d))) (F : Fun K "take_factors" "Scan.take_factors" sFactors f fd') :
    FnOk P w K mg base (CX1 P w) (l + 1) f fd' ["self"] (spPar K C CN d fun z => row z (fac z (inn z d)) isStar) := by
  have nd := scFactors.nd
  refine F.ok1 scFactors (fun vs H Q E h => ?_) (fun cdv A outer s H vs Q E hr h => ?_)
  · obtain ⟨x, z, a, b, rfl, _⟩ := h
    rfl
  obtain ⟨x, z, a, b, rfl, hx, hb, hz, hc, q⟩ := h
  have hr1 : Room 1 _ := hr.mono (show 1 ≤ l by omega)
  have hr2 : Room 2 _ := hr.mono hl
  refine ⟨_, (pss_cons (ps_set (i := 1) nd rfl (Or.inl rfl) (pf_meth0 MF (pv 0) hr (pass1 (E := E))))
    (pss_cons (ps_while own1 (pt_cmpR op_eq (pf_meth0 MA (pv 0) hr1 (pass1 (E := E))) pe_str (nomark _)) (pss_cons (ps_set (i := 2) nd rfl (Or.inl rfl) (pf_meth0 MS (pv 0) hr2 (pass1 (E := E))))
    (pss_one (ps_set (i := 1) nd rfl (Or.inl rfl) (pe_tup (pa_cons (pv 2) (pa_cons (pv 1) (pa_cons (pf_meth0 MF (pv 0) hr (pass1 (E := E))) pa_nil))))))))
    (pss_one (ps_ret (pv 1))))), ?_⟩
  obtain ⟨dx, hx'⟩ := hx
  refine ⟨_, rfl, _, _, _, rfl, hx', rfl, x, z, a, b, rfl, ⟨dx, hx'⟩, hb, hz, hc, ?_⟩
  have q : Out K C CN H x z b Q E (row z (fac z (inn z d)) isStar a) := q
  show Out K C CN H x z b _ E (fac z (inn z d) a)
  have hf : ∀ {x : Addr} {H : Hp} {Q : VK} {k : Nat}, ScAt C H x z k b → Out K C CN H x z b Q E (fac z (inn z d) k) → spPar K C CN d (fun z => fac z (inn z d)) [.ref x] H Q E := fun {x H Q k} h1 h2 => ⟨x, z, k, b, rfl, h1, hb, hz, hc, h2⟩
  have fp : Fwd (fac z (inn z d)) := fwd_fac (fwd_inn z d)
  generalize fac z (inn z d) = p at q hf fp
  have hrow : row z p isStar a = match p a with | none => none | some (e, a1) => lp z p isStar (z.length + 1) e a1 := rfl
  cases h0 : p a with
  | none =>
    rw [hrow, h0] at q
    exact q
  | some r =>
    obtain ⟨e0, a0⟩ := r
    rw [hrow, h0] at q
    have q : Out K C CN H x z b Q E (lp z p isStar (z.length + 1) e0 a0) := q
    intro v0 H0 s0 hx0 r0
    generalize hres : lp z p isStar (z.length + 1) e0 a0 = res at q
    refine ⟨fun m σ H1 => ∃ (e : Ex) (k : Nat) (o : Option V) (v : V), σ = [some (.ref x), some v, o] ∧ z.length < m + k ∧ Same (drop H x) (drop H1 x) ∧ ScAt C H1 x z k b ∧ Rp K (drop H1 x) v e.dat ∧ lp z p isStar m e k = res, ⟨_, e0, a0, none, v0, rfl, by omega, s0, hx0, r0, hres⟩, ?_⟩
    rintro m σ H1 ⟨e, k, o, v, rfl, hm, s1, hx1, rv, hlp⟩
    obtain ⟨dx1, hx1'⟩ := id hx1
    refine ⟨_, rfl, _, _, _, rfl, hx1', rfl, x, z, k, b, rfl, hx1, hz, rfl, _, rfl, ?_⟩
    rw [decS]
    refine ite2 (fun c => ?_) (fun c => ?_)
    · obtain ⟨m, rfl⟩ := star_some hm (S := isStar) (by decide +kernel) c
      have hlp' : (if isStar (sg z k) = true then match p (k + 1) with | none => none | some (f, a1) => lp z p isStar m (.bin (sg z k) e f) a1 else some (e, k)) = res := hlp
      rw [if_pos (show isStar (sg z k) = true from c)] at hlp'
      refine ⟨fun σ H2 => ∃ (e : Ex) (k : Nat) (o : Option V) (v : V), σ = [some (.ref x), some v, o] ∧ z.length < m + k ∧ Same (drop H x) (drop H2 x) ∧ ScAt C H2 x z k b ∧ Rp K (drop H2 x) v e.dat ∧ lp z p isStar m e k = res, fun σ' H2 h => ⟨m, by omega, h⟩, ?_⟩
      refine ⟨_, rfl, _, _, _, rfl, hx1', rfl, x, z, k, b, rfl, hx1, hz, fun H2 s2 hx2 => ?_⟩
      obtain ⟨dx2, hx2'⟩ := id hx2
      refine ⟨_, rfl, _, rfl, _, rfl, _, _, _, rfl, hx2', rfl, hf hx2 ?_⟩
      cases h1 : p (k + 1) with
      | none =>
        rw [h1] at hlp'
        subst hlp'
        exact q.to (s1.trans s2)
      | some r =>
        obtain ⟨f1, k1⟩ := r
        rw [h1] at hlp'
        have hk1 := fp _ _ _ h1
        intro v1 H3 s3 hx3 r1
        obtain ⟨dx3, hx3'⟩ := id hx3
        refine ⟨le3, fun t ht => ?_⟩
        have et := drop_tup (o := .tup [V.str (sg z k), v, v1]) hx3' ht
        have u := same_upd (drop_none (x := x) ht) (.tup [V.str (sg z k), v, v1])
        refine ⟨.bin (sg z k) e f1, k1, _, _, rfl, by omega, ?_, ⟨dx3, same_upd ht _ _ _ hx3'⟩, ?_, hlp'⟩
        · rw [et]
          exact s1.trans (s2.trans (s3.trans u))
        · rw [et]
          exact .tup (SqT.of upd_same) (.cons (.str _) (.cons (rv.same (s2.trans (s3.trans u))) (.cons (r1.same u) .nil)))
    · have hlp' : res = some (e, k) := by
        cases m with
        | zero => exact hlp.symm
        | succ m =>
          have h2 : (if isStar (sg z k) = true then match p (k + 1) with | none => none | some (f, a1) => lp z p isStar m (.bin (sg z k) e f) a1 else some (e, k)) = res := hlp
          rw [if_neg (show ¬ isStar (sg z k) = true from c)] at h2
          exact h2.symm
      subst hlp'
      exact ⟨_, rfl, q v H1 s1 hx1 rv⟩
end
end Car

set_option maxHeartbeats 1000000
namespace Car
open PySem L2
theorem in_sum (x : Str) : inV (.str x) [V.str "+", .str "-"] = isSum x := by
  unfold inV isSum
  simp [List.any, eqV, Bool.beq_eq_decide_eq]
  exact congr (congrArg _ (decide_eq_decide.mpr eq_comm)) (decide_eq_decide.mpr eq_comm)
section
variable {P : Program} {w : World} {K : PySem.W.Frag} {mg : Str → Option Value} {base : Heap} {C CN f : Addr} {fd' : FuncData}
/-! take_terms -/
theorem scTerms : FnScope ["self", "told", "sign"] ["self"] (defScope sTerms) := ⟨rfl, rfl, rfl, by decide +kernel, rfl, by decide +kernel, by decide +kernel⟩
theorem ok_terms {d l : Nat} (hl : 2 ≤ l) (T : ScT K C) (MA : Mt P w K mg base C "sign_ahead" 1 ["self"] (spAhead C)) (MS : Mt P w K mg base C "take_sign" 2 ["self"] (spTakeS C))
    (MF : Mt P w K mg base C "take_factors" l ["self"] (spPar K C CN d fun z => row z (fac z (inn z d)) isStar)) (F : Fun K "take_terms" "Scan.take_terms" sTerms f fd') :
    FnOk P w K mg base (CX1 P w) (l + 1) f fd' ["self"] (spPar K C CN d fun z => row z (row z (fac z (inn z d)) isStar) isSum) := by
  have nd := scTerms.nd
  refine F.ok1 scTerms (fun vs H Q E h => ?_) (fun cdv A outer s H vs Q E hr h => ?_)
  · obtain ⟨x, z, a, b, rfl, _⟩ := h
    rfl
  obtain ⟨x, z, a, b, rfl, hx, hb, hz, hc, q⟩ := h
  have hr1 : Room 1 _ := hr.mono (show 1 ≤ l by omega)
  have hr2 : Room 2 _ := hr.mono hl
  refine ⟨_, (pss_cons (ps_set (i := 1) nd rfl (Or.inl rfl) (pf_meth0 MF (pv 0) hr (pass1 (E := E))))
    (pss_cons (ps_while own1 (pt_cmpR op_in_seq (pf_meth0 MA (pv 0) hr1 (pass1 (E := E))) (pe_tup (pa_cons pe_str (pa_cons pe_str pa_nil))) (by with_unfolding_all rfl)) (pss_cons (ps_set (i := 2) nd rfl (Or.inl rfl) (pf_meth0 MS (pv 0) hr2 (pass1 (E := E))))
    (pss_one (ps_set (i := 1) nd rfl (Or.inl rfl) (pe_tup (pa_cons (pv 2) (pa_cons (pv 1) (pa_cons (pf_meth0 MF (pv 0) hr (pass1 (E := E))) pa_nil))))))))
    (pss_one (ps_ret (pv 1))))), ?_⟩
  obtain ⟨dx, hx'⟩ := hx
  refine ⟨_, rfl, _, _, _, rfl, hx', rfl, x, z, a, b, rfl, ⟨dx, hx'⟩, hb, hz, hc, ?_⟩
  have q : Out K C CN H x z b Q E (row z (row z (fac z (inn z d)) isStar) isSum a) := q
  show Out K C CN H x z b _ E (row z (fac z (inn z d)) isStar a)
  have hf : ∀ {x : Addr} {H : Hp} {Q : VK} {k : Nat}, ScAt C H x z k b → Out K C CN H x z b Q E (row z (fac z (inn z d)) isStar k) → spPar K C CN d (fun z => row z (fac z (inn z d)) isStar) [.ref x] H Q E := fun {x H Q k} h1 h2 => ⟨x, z, k, b, rfl, h1, hb, hz, hc, h2⟩
  have fp : Fwd (row z (fac z (inn z d)) isStar) := fwd_row (fwd_fac (fwd_inn z d))
  generalize row z (fac z (inn z d)) isStar = p at q hf fp
  have hrow : row z p isSum a = match p a with | none => none | some (e, a1) => lp z p isSum (z.length + 1) e a1 := rfl
  cases h0 : p a with
  | none =>
    rw [hrow, h0] at q
    exact q
  | some r =>
    obtain ⟨e0, a0⟩ := r
    rw [hrow, h0] at q
    have q : Out K C CN H x z b Q E (lp z p isSum (z.length + 1) e0 a0) := q
    intro v0 H0 s0 hx0 r0
    generalize hres : lp z p isSum (z.length + 1) e0 a0 = res at q
    refine ⟨fun m σ H1 => ∃ (e : Ex) (k : Nat) (o : Option V) (v : V), σ = [some (.ref x), some v, o] ∧ z.length < m + k ∧ Same (drop H x) (drop H1 x) ∧ ScAt C H1 x z k b ∧ Rp K (drop H1 x) v e.dat ∧ lp z p isSum m e k = res, ⟨_, e0, a0, none, v0, rfl, by omega, s0, hx0, r0, hres⟩, ?_⟩
    rintro m σ H1 ⟨e, k, o, v, rfl, hm, s1, hx1, rv, hlp⟩
    obtain ⟨dx1, hx1'⟩ := id hx1
    refine ⟨_, rfl, _, _, _, rfl, hx1', rfl, x, z, k, b, rfl, hx1, hz, le2, fun t0 ht0 => ⟨t0, _, rfl, .inr (SqT.of upd_same), rfl, rfl, _, rfl, ?_⟩⟩
    rw [show (if false = true then !inV (.str (sg z k)) [V.str "+", .str "-"] else inV (.str (sg z k)) [V.str "+", .str "-"]) = isSum (sg z k) from in_sum _]
    have et0 := drop_tup (o := .tup [V.str "+", .str "-"]) hx1' ht0
    have u0 := same_upd (drop_none (x := x) ht0) (.tup [V.str "+", .str "-"])
    rw [← et0] at u0
    have hx1 : ScAt C (upd H1 t0 (.tup [V.str "+", .str "-"])) x z k b := ⟨dx1, same_upd ht0 _ _ _ hx1'⟩
    have hx1' := same_upd ht0 (.tup [V.str "+", .str "-"]) _ _ hx1'
    have s1 := s1.trans u0
    have rv := rv.same u0
    generalize upd H1 t0 (.tup [V.str "+", .str "-"]) = H1 at hx1 hx1' s1 rv
    refine ite2 (fun c => ?_) (fun c => ?_)
    · obtain ⟨m, rfl⟩ := star_some hm (S := isSum) (by decide +kernel) c
      have hlp' : (if isSum (sg z k) = true then match p (k + 1) with | none => none | some (f, a1) => lp z p isSum m (.bin (sg z k) e f) a1 else some (e, k)) = res := hlp
      rw [if_pos (show isSum (sg z k) = true from c)] at hlp'
      refine ⟨fun σ H2 => ∃ (e : Ex) (k : Nat) (o : Option V) (v : V), σ = [some (.ref x), some v, o] ∧ z.length < m + k ∧ Same (drop H x) (drop H2 x) ∧ ScAt C H2 x z k b ∧ Rp K (drop H2 x) v e.dat ∧ lp z p isSum m e k = res, fun σ' H2 h => ⟨m, by omega, h⟩, ?_⟩
      refine ⟨_, rfl, _, _, _, rfl, hx1', rfl, x, z, k, b, rfl, hx1, hz, fun H2 s2 hx2 => ?_⟩
      obtain ⟨dx2, hx2'⟩ := id hx2
      refine ⟨_, rfl, _, rfl, _, rfl, _, _, _, rfl, hx2', rfl, hf hx2 ?_⟩
      cases h1 : p (k + 1) with
      | none =>
        rw [h1] at hlp'
        subst hlp'
        exact q.to (s1.trans s2)
      | some r =>
        obtain ⟨f1, k1⟩ := r
        rw [h1] at hlp'
        have hk1 := fp _ _ _ h1
        intro v1 H3 s3 hx3 r1
        obtain ⟨dx3, hx3'⟩ := id hx3
        refine ⟨le3, fun t ht => ?_⟩
        have et := drop_tup (o := .tup [V.str (sg z k), v, v1]) hx3' ht
        have u := same_upd (drop_none (x := x) ht) (.tup [V.str (sg z k), v, v1])
        refine ⟨.bin (sg z k) e f1, k1, _, _, rfl, by omega, ?_, ⟨dx3, same_upd ht _ _ _ hx3'⟩, ?_, hlp'⟩
        · rw [et]
          exact s1.trans (s2.trans (s3.trans u))
        · rw [et]
          exact .tup (SqT.of upd_same) (.cons (.str _) (.cons (rv.same (s2.trans (s3.trans u))) (.cons (r1.same u) .nil)))
    · have hlp' : res = some (e, k) := by
        cases m with
        | zero => exact hlp.symm
        | succ m =>
          have h2 : (if isSum (sg z k) = true then match p (k + 1) with | none => none | some (f, a1) => lp z p isSum m (.bin (sg z k) e f) a1 else some (e, k)) = res := hlp
          rw [if_neg (show ¬ isSum (sg z k) = true from c)] at h2
          exact h2.symm
      subst hlp'
      exact ⟨_, rfl, q v H1 s1 hx1 rv⟩
end
end Car

set_option maxHeartbeats 1000000
namespace Car
open PySem L2
theorem slice_mem {z : Str} {l u : Option Int} {c : Nat} (h : c ∈ cl (Txt.slice z l u)) : c ∈ cl z := by
  unfold Txt.slice at h
  split at h
  · exact h
  · obtain ⟨i, _, e⟩ := List.mem_filterMap.mp (by simpa using h)
    exact Array.mem_toList_iff.mpr (Array.mem_of_getElem? e)
section
variable {P : Program} {w : World} {K : PySem.W.Frag} {mg : Str → Option Value} {base : Heap} {C CN f : Addr} {fd' : FuncData}
/-! take_brackets -/
theorem scBrackets : FnScope ["self", "told"] ["self"] (defScope sBrackets) := ⟨rfl, rfl, rfl, by decide +kernel, rfl, by decide +kernel, by decide +kernel⟩
noncomputable def spInn (K : PySem.W.Frag) (C CN : Addr) (d : Nat) : Sp := fun vs H Q E => ∃ d', d' + 1 = d ∧ spPar K C CN d' (fun z => parse z d') vs H Q E
theorem ok_brackets {d l : Nat} (hl : 2 ≤ l) (W : WdT K mg) (R : RowT K mg base CN) (T : ScT K C) (MS : Mt P w K mg base C "take_sign" 2 ["self"] (spTakeS C)) (MT : Mt P w K mg base C "take_terms" l ["self"] (spInn K C CN d)) (F : Fun K "take_brackets" "Scan.take_brackets" sBrackets f fd') :
    FnOk P w K mg base (CX1 P w) (l + 1) f fd' ["self"] (spPar K C CN d fun z => brk z (inn z d)) := by
  have nd := scBrackets.nd
  refine F.ok1 scBrackets (fun vs H Q E h => ?_) (fun cdv A outer s H vs Q E hr h => ?_)
  · obtain ⟨x, z, a, b, rfl, _⟩ := h
    rfl
  obtain ⟨x, z, a, b, rfl, hx, hb, hz, hc, q⟩ := h
  have q : Out K C CN H x z b Q E (brk z (inn z d) a) := q
  have hr2 : Room 2 _ := hr.mono hl
  obtain ⟨bm, O, FB⟩ := R.own
  obtain ⟨t1, g1⟩ := W.mb
  refine ⟨_, (pss_cons (ps_if (pt_cmpR op_eq (pe_fld (pv 0) rfl) (pe_glob (v := .int 5) rfl g1 ⟨_, rfl⟩) (nomark _)) (pss_one (ps_raise O FB rfl rfl raises1 (pa_cons pe_str pa_nil))) pss_nil)
    (pss_cons (ps_fldaug (pv 0) pe_int in_add)
    (pss_cons (ps_expr (pf_meth0 MS (pv 0) hr2 (pass1 (E := E))))
    (pss_cons (ps_set (i := 1) nd rfl (Or.inl rfl) (pf_meth0 MT (pv 0) hr (pass1 (E := E))))
    (pss_cons (ps_if (pt_cmpR op_ne (pf_meth0 MS (pv 0) hr2 (pass1 (E := E))) pe_str (nomark _)) (pss_one (ps_raise O FB rfl rfl raises1 (pa_cons pe_str pa_nil))) pss_nil)
    (pss_cons (ps_fldaug (pv 0) pe_int in_sub)
    (pss_one (ps_ret (pv 1))))))))), ?_⟩
  obtain ⟨dx, hx'⟩ := hx
  refine ⟨_, rfl, _, _, _, _, _, rfl, hx', T.cl, T.nBr, rfl, rfl, _, rfl, ?_⟩
  have e5 : decide (V.int (b : Int) = V.int 5) = decide (d = 0) := by
    by_cases h : d = 0
    · rw [decide_eq_true h, decide_eq_true (by rw [show b = 5 by omega]; rfl)]
    · rw [decide_eq_false h, decide_eq_false (fun e => h (by injection e with e; omega))]
  rw [e5]
  refine ite2 (fun c => ?_) (fun c => ?_)
  · have c' : d = 0 := of_decide_eq_true c
    subst c'
    exact ⟨le1, q H (Same.refl _)⟩
  have c' : ¬ d = 0 := fun e => c (decide_eq_true e)
  obtain ⟨d, rfl⟩ : ∃ d', d = d' + 1 := ⟨d - 1, by omega⟩
  refine ⟨_, rfl, _, _, _, _, _, rfl, hx', T.cl, T.nBr, rfl, _, _, rfl, rfl, _, _, hx', (by show 3 < 1000; decide), ?_⟩
  have s1 : Same (drop H x) (drop (upd H x (.ins C dx (putF "brackets" (.int ((b : Int) + 1)) (fsS z a b)))) x) := same_dropU
  have hx1 : upd H x (.ins C dx (putF "brackets" (.int ((b : Int) + 1)) (fsS z a b))) x = some (.ins C dx (fsS z a (b + 1))) := upd_same
  generalize upd H x (.ins C dx (putF "brackets" (.int ((b : Int) + 1)) (fsS z a b))) = H1 at s1 hx1
  refine ⟨_, rfl, _, _, _, rfl, hx1, rfl, x, z, a, b + 1, rfl, ⟨dx, hx1⟩, hz, fun H2 s2 hx2 => ?_⟩
  obtain ⟨dx2, hx2'⟩ := id hx2
  refine ⟨_, rfl, _, _, _, rfl, hx2', rfl, d, rfl, x, z, a + 1, b + 1, rfl, hx2, (by omega), hz, hc, ?_⟩
  have hbrk : brk z (inn z (d + 1)) a = match parse z d (a + 1) with | none => none | some (e, a1) => if sg z a1 = ")" then some (e, a1 + 1) else none := rfl
  rw [hbrk] at q
  show Out K C CN H2 x z (b + 1) _ E (parse z d (a + 1))
  cases hp : parse z d (a + 1) with
  | none =>
    rw [hp] at q
    exact fun H' s' => q H' (s1.trans (s2.trans s'))
  | some r =>
    obtain ⟨e, a1⟩ := r
    rw [hp] at q
    have q : Out K C CN H x z b Q E (if sg z a1 = ")" then some (e, a1 + 1) else none) := q
    intro v H3 s3 hx3 rv
    obtain ⟨dx3, hx3'⟩ := id hx3
    refine ⟨_, rfl, _, _, _, rfl, hx3', rfl, x, z, a1, b + 1, rfl, hx3, hz, fun H4 s4 hx4 => ⟨rfl, _, rfl, ?_⟩⟩
    rw [decS]
    obtain ⟨dx4, hx4'⟩ := id hx4
    by_cases c2 : sg z a1 = ")"
    · rw [if_pos c2] at q
      rw [decide_eq_true c2]
      refine iteF ⟨_, rfl, _, _, _, _, _, rfl, hx4', T.cl, T.nBr, rfl, _, _, rfl, rfl, _, _, hx4', (by show 3 < 1000; decide), ?_⟩
      refine ⟨_, rfl, q v _ (s1.trans (s2.trans (s3.trans (s4.trans same_dropU)))) ⟨dx4, ?_⟩ (rv.same (s4.trans same_dropU))⟩
      rw [upd_same]
      show some (HO.ins C dx4 [("word", .str z), ("at", .int ((a1 + 1 : Nat) : Int)), ("brackets", .int (((b + 1 : Nat) : Int) - 1))]) = some (HO.ins C dx4 (fsS z (a1 + 1) b))
      rw [show (((b + 1 : Nat) : Int) - 1) = (b : Int) by omega]
      rfl
    · rw [if_neg c2] at q
      rw [decide_eq_false c2]
      exact iteT ⟨le1, q H4 (s1.trans (s2.trans (s3.trans s4)))⟩
/-! take_factor -/
theorem scFactor : FnScope ["self", "piece"] ["self"] (defScope sFactor) := ⟨rfl, rfl, rfl, by decide +kernel, rfl, by decide +kernel, by decide +kernel⟩
theorem ok_factor {d l : Nat} (hl : 2 ≤ l) (TT : LawT mg) (R : RowT K mg base CN) (T : ScT K C) (MA : Mt P w K mg base C "sign_ahead" 1 ["self"] (spAhead C)) (MP : Mt P w K mg base C "take_piece" 2 ["self"] (spPiece C)) (MB : Mt P w K mg base C "take_brackets" l ["self"] (spPar K C CN d fun z => brk z (inn z d)))
    (FU : Fn P w K mg base "is_number" 2 ["word"] spNumber) (FN : Fn P w K mg base "is_name" 2 ["word"] spName) (F : Fun K "take_factor" "Scan.take_factor" sFactor f fd') :
    FnOk P w K mg base (CX1 P w) (l + 1) f fd' ["self"] (spPar K C CN d fun z => fac z (inn z d)) := by
  have nd := scFactor.nd
  refine F.ok1 scFactor (fun vs H Q E h => ?_) (fun cdv A outer s H vs Q E hr h => ?_)
  · obtain ⟨x, z, a, b, rfl, _⟩ := h
    rfl
  obtain ⟨x, z, a, b, rfl, hx, hb, hz, hc, q⟩ := h
  have q : Out K C CN H x z b Q E (if sg z a = "(" then brk z (inn z d) a else leaf z a) := q
  have hr1 : Room 1 _ := hr.mono (show 1 ≤ l by omega)
  have hr2 : Room 2 _ := hr.mono hl
  obtain ⟨bm, O, FB⟩ := R.own
  refine ⟨_, (pss_cons (ps_if (pt_cmpR op_eq (pf_meth0 MA (pv 0) hr1 (pass1 (E := E))) pe_str (nomark _)) (pss_one (ps_ret (pf_meth0 MB (pv 0) hr (pass1 (E := E))))) pss_nil)
    (pss_cons (ps_set (i := 1) nd rfl (Or.inl rfl) (pf_meth0 MP (pv 0) hr2 (pass1 (E := E))))
    (pss_cons (ps_if (pt_truth (pf_call FU hr2 rfl (pass1 (E := E)) (pa_cons (pv 1) pa_nil)) (fun _ => rfl)) (pss_one (ps_ret (pe_tup (pa_cons pe_str (pa_cons (pe_callTy call_intS rfl TT.int bt_int (pa_cons (pv 1) pa_nil)) pa_nil))))) pss_nil)
    (pss_cons (ps_if (pt_truth (pf_call FN hr2 rfl (pass1 (E := E)) (pa_cons (pv 1) pa_nil)) (fun _ => rfl)) (pss_one (ps_ret (pe_tup (pa_cons pe_str (pa_cons (pv 1) pa_nil))))) pss_nil)
    (pss_one (ps_raise O FB rfl rfl raises1 (pa_cons (pe_fsR (pv 1) (by decide +kernel)) pa_nil))))))), ?_⟩
  obtain ⟨dx, hx'⟩ := id hx
  refine ⟨_, rfl, _, _, _, rfl, hx', rfl, x, z, a, b, rfl, hx, hz, rfl, _, rfl, ?_⟩
  rw [decS]
  refine ite2 (fun c => ?_) (fun c => ?_)
  · rw [if_pos (of_decide_eq_true c)] at q
    exact ⟨_, rfl, _, _, _, rfl, hx', rfl, x, z, a, b, rfl, hx, hb, hz, hc, q⟩
  rw [if_neg (fun e => c (decide_eq_true e))] at q
  refine ⟨_, rfl, _, _, _, rfl, hx', rfl, x, z, a, b, rfl, hx, hz, fun H1 s1 hx1 => ?_⟩
  have pl : (piece z a).length ≤ 1000 := Nat.le_trans (Txt.slice_le z _ _) hz
  have pc : ∀ c ∈ cl (piece z a), c < 16 ^ 8 := fun c hm => hc c (slice_mem hm)
  have tup : ∀ {G : Hp} {e : Ex} {vs : List V} {ds : List PyData}, e.dat = .tuple ds → Same H1 G → leaf z a = some (e, pE z a) → (∀ H', Rps K H' vs ds) → ∀ t, G t = none → Q (.ref t) (upd G t (.tup vs)) := fun {G e vs ds} he sG hlf hv t ht => by
    rw [hlf] at q
    obtain ⟨dx1, hx1'⟩ := id hx1
    have hxG := sG _ _ hx1'
    have et := drop_tup (o := .tup vs) hxG ht
    have u := same_upd (drop_none (x := x) ht) (.tup vs)
    refine q (.ref t) _ ?_ ⟨dx1, same_upd ht _ _ _ hxG⟩ ?_
    · rw [et]
      exact s1.trans ((sG.drop x).trans u)
    · rw [et, he]
      exact .tup (SqT.of upd_same) (hv _)
  refine ⟨_, rfl, piece z a, rfl, pl, fun H2 s2 => ⟨_, rfl, ?_⟩⟩
  refine ite2 (fun c1 => ?_) (fun c1 => ?_)
  · obtain ⟨hi, hl6⟩ := numS_int c1
    refine ⟨_, rfl, piece z a, numV (piece z a), rfl, hi, (by omega), le2, fun t ht => ?_⟩
    exact tup (e := .num (numV (piece z a))) rfl s2 (by unfold leaf; rw [if_pos c1]) (fun _ => .cons (.str _) (.cons (.int _) .nil)) t ht
  refine ⟨_, rfl, piece z a, rfl, pl, fun H3 s3 => ⟨_, rfl, ?_⟩⟩
  refine ite2 (fun c2 => ?_) (fun c2 => ?_)
  · refine ⟨_, rfl, le2, fun t ht => ?_⟩
    exact tup (e := .nam (piece z a)) rfl (s2.trans s3) (by unfold leaf; rw [if_neg c1, if_pos c2]) (fun _ => .cons (.str _) (.cons (.str _) .nil)) t ht
  · refine ⟨_, rfl, piece z a, rfl, pl, pc, fun y => ⟨le1, ?_⟩⟩
    have : leaf z a = none := by unfold leaf; rw [if_neg c1, if_neg c2]
    rw [this] at q
    exact q H3 (s1.trans ((s2.trans s3).drop x))
end
end Car

set_option maxHeartbeats 1000000
namespace Car
open PySem L2
section
variable {P : Program} {w : World} {K : PySem.W.Frag} {mg : Str → Option Value} {base : Heap} {C CN f : Addr} {fd' : FuncData}
/-- a method of the text -/
structure MeT (K : PySem.W.Frag) (C : Addr) (m q : Str) (st : Stmt) (f : Addr) (fd : FuncData) : Prop where
  fn : Fun K m q st f fd
  mt : Meth K C m f
  bi : Binds K fd ["self"] []
theorem MeT.of {m q : Str} {st : Stmt} {fd : FuncData} {k : Nat} {sp : Sp} (M : MeT K C m q st f fd) (c : Cls K C) (ok : FnOk P w K mg base (CX1 P w) k f fd ["self"] sp) : Mt P w K mg base C m k ["self"] sp := ⟨f, fd, ok, M.mt, c, M.bi⟩
/-- by induction over the brackets -/
theorem ok_par {fB fF fS fT : Addr} {dB dF dS dT : FuncData} (TT : LawT mg) (W : WdT K mg) (R : RowT K mg base CN) (T : ScT K C)
    (MA : Mt P w K mg base C "sign_ahead" 1 ["self"] (spAhead C)) (MS : Mt P w K mg base C "take_sign" 2 ["self"] (spTakeS C)) (MP : Mt P w K mg base C "take_piece" 2 ["self"] (spPiece C))
    (FU : Fn P w K mg base "is_number" 2 ["word"] spNumber) (FN : Fn P w K mg base "is_name" 2 ["word"] spName)
    (mB : MeT K C "take_brackets" "Scan.take_brackets" sBrackets fB dB) (mF : MeT K C "take_factor" "Scan.take_factor" sFactor fF dF) (mS : MeT K C "take_factors" "Scan.take_factors" sFactors fS dS) (mT : MeT K C "take_terms" "Scan.take_terms" sTerms fT dT) :
    ∀ d, Mt P w K mg base C "take_terms" (4 * d + 6) ["self"] (spPar K C CN d fun z => parse z d) := by
  have step : ∀ (d l : Nat), 2 ≤ l → Mt P w K mg base C "take_terms" l ["self"] (spInn K C CN d) → FnOk P w K mg base (CX1 P w) (l + 4) fT dT ["self"] (spPar K C CN d fun z => parse z d) := fun d l hl MT => by
    have M1 := mB.of T.cl (ok_brackets hl W R T MS MT mB.fn)
    have M2 := mF.of T.cl (ok_factor (show 2 ≤ l + 1 by omega) TT R T MA MP M1 FU FN mF.fn)
    have M3 := mS.of T.cl (ok_factors (show 2 ≤ l + 2 by omega) T MA MS M2 mS.fn)
    have ok := ok_terms (show 2 ≤ l + 3 by omega) T MA MS M3 mT.fn
    have e : (fun z => parse z d) = fun z => row z (row z (fac z (inn z d)) isStar) isSum := by
      funext z
      rw [parse_inn]
      rfl
    rw [e]
    exact ok
  intro d
  induction d with
  | zero =>
    refine mT.of T.cl (step 0 2 (Nat.le_refl _) (mT.of T.cl ⟨fun vs H Q E ⟨d', e, _⟩ => absurd e (by omega), fun _ _ _ _ _ _ _ _ _ _ _ _ _ ⟨d', e, _⟩ => absurd e (by omega)⟩))
  | succ d ih =>
    obtain ⟨f0, fd0, ok0, mt0, cl0, bi0⟩ := ih.ex
    have := step (d + 1) (4 * d + 6) (by omega) ⟨f0, fd0, ok0.imp fun vs H Q E ⟨d', e, h⟩ => (by have z : d' = d := (by omega); subst z; exact h), mt0, cl0, bi0⟩
    rw [show 4 * (d + 1) + 6 = 4 * d + 6 + 4 by omega]
    exact mT.of T.cl this
/-! ### expression -/
noncomputable def exprD (z : Str) : Option Ex := if 60 < z.length then none else match parse z 5 0 with
  | none => none
  | some (e, a) => if a < z.length then none else some e
noncomputable def spExpr (K : PySem.W.Frag) (CN : Addr) : Sp := fun vs H Q E => ∃ z : Str, vs = [.str z] ∧ z.length ≤ 1000 ∧ (∀ c ∈ cl z, c < 16 ^ 8) ∧ match exprD z with
  | some e => ∀ v H', Same H H' → Rp K H' v e.dat → Q v H'
  | none => ∀ H', Same H H' → E (.ref CN) none H'
theorem scExpr : FnScope ["word", "scan", "told"] ["word"] (defScope sExpr) := ⟨rfl, rfl, rfl, by decide +kernel, rfl, by decide +kernel, by decide +kernel⟩
theorem ok_expr (TT : LawT mg) (W : WdT K mg) (R : RowT K mg base CN) (T : ScT K C) (MI : Mc P w K mg base "Scan" C 1 ["self", "word"] (spScanI C)) (MT : Mt P w K mg base C "take_terms" 26 ["self"] (spPar K C CN 5 fun z => parse z 5)) (F : Fun K "expression" "expression" sExpr f fd') :
    FnOk P w K mg base (CX1 P w) 27 f fd' ["word"] (spExpr K CN) := by
  have nd := scExpr.nd
  refine F.ok1 scExpr (fun vs H Q E h => ?_) (fun cdv A outer s H vs Q E hr h => ?_)
  · obtain ⟨z, rfl, _⟩ := h
    rfl
  obtain ⟨z, rfl, hz, hc, q⟩ := h
  have hr2 : Room 2 _ := hr.mono (by decide)
  have hz' : z.length ≤ sizeLine := Nat.le_of_lt (line3 hz (by decide))
  obtain ⟨bm, O, FB⟩ := R.own
  obtain ⟨t1, g1⟩ := W.ms
  refine ⟨_, (pss_cons (ps_if (pt_cmpR op_gt (pe_callB call_len_str rfl TT.len PySem.boot_len (pa_cons (pv 0) pa_nil)) (pe_glob (v := .int 60) rfl g1 ⟨_, rfl⟩) (nomark _)) (pss_one (ps_raise O FB rfl rfl raises1 (pa_cons pe_str pa_nil))) pss_nil)
    (pss_cons (ps_set (i := 1) nd rfl (Or.inl rfl) (pf_make MI hr2 rfl (pass1 (E := E)) (pa_cons (pv 0) pa_nil)))
    (pss_cons (ps_set (i := 2) nd rfl (Or.inl rfl) (pf_meth0 MT (pv 1) hr (pass1 (E := E))))
    (pss_cons (ps_if (pt_cmpR op_lt (pe_fld (pv 1) rfl) (pe_callB call_len_str rfl TT.len PySem.boot_len (pa_cons (pv 0) pa_nil)) (nomark _)) (pss_one (ps_raise O FB rfl rfl raises1 (pa_cons (pe_fsR (pv 0) (by decide +kernel)) pa_nil))) pss_nil)
    (pss_one (ps_ret (pv 2))))))), ?_⟩
  refine ⟨_, rfl, z, rfl, hz', _, _, rfl, rfl, _, rfl, ?_⟩
  refine ite2 (fun c => ?_) (fun c => ?_)
  · have c' : 60 < z.length := by have : (60 : Int) < (z.length : Int) := of_decide_eq_true c; omega
    have e : exprD z = none := if_pos c'
    rw [e] at q
    exact ⟨le1, q H (Same.refl _)⟩
  have c' : ¬ 60 < z.length := fun h => c (decide_eq_true (by show (60 : Int) < (z.length : Int); omega))
  have e : exprD z = match parse z 5 0 with | none => none | some (e, a) => if a < z.length then none else some e := if_neg c'
  rw [e] at q
  refine ⟨_, rfl, fun x dx hx hdx hne => ?_⟩
  refine ⟨x, dx, z, rfl, upd_same, rfl, ?_⟩
  rw [upd_upd]
  have s1 : Same H (upd (upd H dx (.own x)) x (.ins C dx (fsS z 0 0))) := (same_upd hdx _).trans (same_upd (by rw [upd_ne (Ne.symm hne)]; exact hx) _)
  have hx1 : upd (upd H dx (.own x)) x (.ins C dx (fsS z 0 0)) x = some (.ins C dx (fsS z 0 0)) := upd_same
  generalize upd (upd H dx (.own x)) x (.ins C dx (fsS z 0 0)) = H1 at s1 hx1
  have back : ∀ {G : Hp}, Same (drop H1 x) (drop G x) → Same H G := fun {G} s => fun b o e => by
    have hb : b ≠ x := fun z => by rw [z, hx] at e; cases e
    have := s b o (by rw [drop_ne hb]; exact s1 _ _ e)
    rw [drop_ne hb] at this
    exact this
  refine ⟨_, rfl, _, _, _, rfl, hx1, rfl, x, z, 0, 0, rfl, ⟨dx, hx1⟩, rfl, hz, hc, ?_⟩
  show Out K C CN H1 x z 0 _ E (parse z 5 0)
  cases hp : parse z 5 0 with
  | none =>
    rw [hp] at q
    exact fun H' s' => q H' (back s')
  | some r =>
    obtain ⟨ex, a⟩ := r
    rw [hp] at q
    intro v H2 s2 hx2 rv
    obtain ⟨dx2, hx2'⟩ := hx2
    refine ⟨_, rfl, _, _, _, _, _, rfl, hx2', T.cl, T.nAt, rfl, _, rfl, z, rfl, hz', _, _, rfl, rfl, _, rfl, ?_⟩
    by_cases c2 : a < z.length
    · have q : ∀ H', Same H H' → E (.ref CN) none H' := by
        have q' : (match (if a < z.length then none else some ex) with | some e => ∀ v H', Same H H' → Rp K H' v e.dat → Q v H' | none => ∀ H', Same H H' → E (.ref CN) none H') := q
        rw [if_pos c2] at q'
        exact q'
      rw [decide_eq_true (show (a : Int) < (z.length : Int) by omega)]
      exact iteT ⟨_, rfl, z, rfl, hz, hc, fun y => ⟨le1, q H2 (back s2)⟩⟩
    · have q : ∀ v H', Same H H' → Rp K H' v ex.dat → Q v H' := by
        have q' : (match (if a < z.length then none else some ex) with | some e => ∀ v H', Same H H' → Rp K H' v e.dat → Q v H' | none => ∀ H', Same H H' → E (.ref CN) none H') := q
        rw [if_neg c2] at q'
        exact q'
      rw [decide_eq_false (show ¬ (a : Int) < (z.length : Int) by omega)]
      exact iteF ⟨_, rfl, q v H2 (back s2) (rv.same drop_le)⟩
end
end Car

set_option maxHeartbeats 1000000
namespace Car
open PySem L2
/-! ### words without signs of sums: by lists of signs -/
noncomputable def noJ (c : Nat) : Bool := !decide (c ∈ cl jointT)
theorem cl_joint : cl jointT = [43, 45, 42, 40, 41] := by decide +kernel
theorem noJ_iff (c : Nat) : noJ c = true ↔ c ≠ 43 ∧ c ≠ 45 ∧ c ≠ 42 ∧ c ≠ 40 ∧ c ≠ 41 := by
  unfold noJ
  rw [cl_joint]
  simp
noncomputable abbrev stl (l : List Nat) : Str := ⟨l.toArray⟩
noncomputable def leafA (l : List Nat) : Option Ex := if numS (stl l) = true then some (.num (numV (stl l))) else if nameS (stl l) = true then some (.nam (stl l)) else none
noncomputable def leafL (l : List Nat) : Option (Ex × List Nat) := (leafA (l.takeWhile noJ)).map fun e => (e, l.dropWhile noJ)
theorem tw_app {p : Nat → Bool} {l s : List Nat} (h : ∀ c ∈ l, p c = true) (hs : ∀ c, s.head? = some c → p c = false) : (l ++ s).takeWhile p = l ∧ (l ++ s).dropWhile p = s := by
  induction l with
  | nil =>
    cases s with
    | nil => exact ⟨rfl, rfl⟩
    | cons c s =>
      have := hs c rfl
      simp [List.takeWhile_cons, List.dropWhile_cons, this]
  | cons a l ih =>
    obtain ⟨i1, i2⟩ := ih fun c hc => h c (List.mem_cons_of_mem _ hc)
    have ha := h a List.mem_cons_self
    simp [List.takeWhile_cons, List.dropWhile_cons, ha, i1, i2]
theorem tw_all {p : Nat → Bool} : ∀ l : List Nat, ∀ c ∈ l.takeWhile p, p c = true
  | [], c, h => by cases h
  | a :: l, c, h => by
    rw [List.takeWhile_cons] at h
    cases ha : p a with
    | true =>
      rw [ha] at h
      rcases List.mem_cons.mp h with rfl | h
      · exact ha
      · exact tw_all l c h
    | false => rw [ha] at h; cases h
theorem head_dw {p : Nat → Bool} : ∀ (l : List Nat) (c : Nat), (l.dropWhile p).head? = some c → p c = false
  | [], c, h => by cases h
  | a :: l, c, h => by
    rw [List.dropWhile_cons] at h
    cases ha : p a with
    | true => rw [ha] at h; exact head_dw l c h
    | false =>
      rw [ha] at h
      have : a = c := by simpa using h
      rw [← this]; exact ha
theorem noJ41 : noJ 41 = false := by decide +kernel
theorem noJ40 : noJ 40 = false := by decide +kernel
theorem leafA_nil : leafA [] = none := by decide +kernel
/-! ### the law's way: brackets off from both ends -/
theorem leafA_joint {l : List Nat} {c : Nat} (h : c ∈ l) (hc : noJ c = false) : leafA l = none := by
  have nl : ¬ c ∈ cl smallT ∧ ¬ c ∈ cl figT := by
    have e1 : (cl smallT).all noJ = true := by decide +kernel
    have e2 : (cl figT).all noJ = true := by decide +kernel
    refine ⟨fun z => ?_, fun z => ?_⟩
    · rw [List.all_eq_true.mp e1 c z] at hc
      cases hc
    · rw [List.all_eq_true.mp e2 c z] at hc
      cases hc
  have w1 : wrt (stl l) smallT = false := by
    refine Bool.eq_false_iff.mpr fun z => nl.1 ?_
    unfold wrt at z
    exact of_decide_eq_true (List.all_eq_true.mp z c (by simpa using h))
  have w2 : wrt (stl l) figT = false := by
    refine Bool.eq_false_iff.mpr fun z => nl.2 ?_
    unfold wrt at z
    exact of_decide_eq_true (List.all_eq_true.mp z c (by simpa using h))
  have n1 : nameS (stl l) = false := by unfold nameS; rw [w1, Bool.false_and, Bool.and_false]
  have n2 : numS (stl l) = false := by unfold numS; rw [w2, Bool.and_false, Bool.false_and]
  unfold leafA
  rw [n1, n2]
  rfl
end Car

set_option maxHeartbeats 1000000
namespace Car
open PySem L2
theorem one_eq {c d : Nat} {x : Str} (hx : x.cps = #[d]) : ((⟨#[c]⟩ : Str) = x) ↔ c = d := by
  constructor
  · intro h
    have : (⟨#[c]⟩ : Str).cps = x.cps := by rw [h]
    rw [hx] at this
    simpa using this
  · intro h
    apply Str.ext'
    rw [hx, h]
theorem empty_ne {d : Nat} {x : Str} (hx : x.cps = #[d]) : ¬ (Str.empty = x) := fun h => by
  have : (Str.empty).cps = x.cps := by rw [h]
  rw [hx] at this
  have := congrArg Array.size this
  simp [Str.empty] at this
theorem sg_is {z : Str} {a d : Nat} {x : Str} (hx : x.cps = #[d]) : sg z a = x ↔ ((cl z).drop a).head? = some d := by
  rw [List.head?_drop]
  by_cases h : a < z.cps.size
  · have e := Array.getElem?_eq_getElem h
    rw [sg_some e, one_eq hx]
    rw [show (cl z)[a]? = some z.cps[a] by simpa using e]
    exact ⟨fun q => by rw [q], fun q => Option.some.inj q⟩
  · rw [sg_none (by omega)]
    have : (cl z)[a]? = none := by simp; omega
    rw [this]
    exact ⟨fun q => absurd q (empty_ne hx), fun q => by cases q⟩
theorem c_plus : (Str.ofString "+").cps = #[43] := by decide +kernel
theorem c_minus : (Str.ofString "-").cps = #[45] := by decide +kernel
theorem c_star : (Str.ofString "*").cps = #[42] := by decide +kernel
theorem c_open : (Str.ofString "(").cps = #[40] := by decide +kernel
theorem c_close : (Str.ofString ")").cps = #[41] := by decide +kernel
theorem pcE_is (z : Str) : ∀ n a, n = z.length - a → a ≤ z.length → pcE z n a = a + (((cl z).drop a).takeWhile noJ).length
  | 0, a, h, ha => by
    have : (cl z).drop a = [] := List.drop_of_length_le (by simp; show z.cps.size ≤ a; have : z.length = z.cps.size := rfl; omega)
    rw [this]
    rfl
  | n + 1, a, h, ha => by
    have hl : a < z.cps.size := by have : z.length = z.cps.size := rfl; omega
    have e := Array.getElem?_eq_getElem hl
    have el : (cl z).drop a = z.cps[a] :: (cl z).drop (a + 1) := by
      have hl2 : a < (cl z).length := by simpa using hl
      rw [List.drop_eq_getElem_cons hl2]
      simp
    unfold pcE
    rw [e, el, List.takeWhile_cons]
    show (if z.cps[a] ∈ cl jointT then a else pcE z n (a + 1)) = _
    by_cases hc : z.cps[a] ∈ cl jointT
    · have : noJ z.cps[a] = false := by unfold noJ; rw [decide_eq_true hc]; rfl
      rw [if_pos hc, this]
      rfl
    · have : noJ z.cps[a] = true := by unfold noJ; rw [decide_eq_false hc]; rfl
      rw [if_neg hc, this, pcE_is z n (a + 1) (by omega) hl]
      simp
      omega
theorem len_cl (z : Str) : (cl z).length = z.length := by simp [Str.length]
theorem tw_len (l : List Nat) : (l.takeWhile noJ).length + (l.dropWhile noJ).length = l.length := by
  rw [← List.length_append, List.takeWhile_append_dropWhile]
theorem piece_is {z : Str} {a : Nat} (ha : a ≤ z.length) : piece z a = stl (((cl z).drop a).takeWhile noJ) ∧ pE z a = z.length - (((cl z).drop a).dropWhile noJ).length := by
  have hp := pcE_is z _ a rfl ha
  have hl := tw_len ((cl z).drop a)
  rw [List.length_drop, len_cl] at hl
  refine ⟨?_, by show pcE z (z.length - a) a = _; omega⟩
  have h := StrLaws.sliceText_plain (x := z) (i := (a : Int)) (j := (pE z a : Int)) ⟨by omega, by show (a : Int) ≤ (pcE z (z.length - a) a : Nat); omega, by have h9 : z.cps.toList.length = z.length := len_cl z; show ((pcE z (z.length - a) a : Nat) : Int) ≤ _; omega⟩
  have e : piece z a = ⟨(((cl z).drop a).take (((cl z).drop a).takeWhile noJ).length).toArray⟩ := by
    rw [Int.toNat_natCast, show ((pE z a : Int) - (a : Int)).toNat = (((cl z).drop a).takeWhile noJ).length by show (((pcE z (z.length - a) a : Nat) : Int) - (a : Int)).toNat = _; omega] at h
    exact h
  rw [e]
  have : ∀ l : List Nat, l.take (l.takeWhile noJ).length = l.takeWhile noJ := fun l => by
    conv => lhs; arg 2; rw [← List.takeWhile_append_dropWhile (p := noJ) (l := l)]
    rw [List.take_append_of_le_length (Nat.le_refl _), List.take_length]
  rw [this]
noncomputable def onto (z : Str) (r : Option (Ex × List Nat)) : Rd1 := r.map fun q => (q.1, z.length - q.2.length)
theorem leaf_is {z : Str} {a : Nat} (ha : a ≤ z.length) : leaf z a = onto z (leafL ((cl z).drop a)) := by
  obtain ⟨h1, h2⟩ := piece_is ha
  unfold leaf leafL leafA onto
  rw [h1, h2]
  split
  · rfl
  · split <;> rfl
end Car

set_option maxHeartbeats 1000000
namespace Car
open PySem L2
/-! ### written forms, and how they are read -/
noncomputable abbrev st1 (c : Nat) : Str := ⟨#[c]⟩
inductive Wf where
  | leaf (t : List Nat) (e : Ex)
  | brk (w : Wf)
  | bin (s : Nat) (a b : Wf)
noncomputable def Wf.tx : Wf → List Nat
  | .leaf t _ => t
  | .brk w => 40 :: (w.tx ++ [41])
  | .bin s a b => a.tx ++ s :: b.tx
noncomputable def Wf.ex : Wf → Ex
  | .leaf _ e => e
  | .brk w => w.ex
  | .bin s a b => .bin (st1 s) a.ex b.ex
noncomputable def Wf.lv : Wf → Nat
  | .leaf _ _ => 0
  | .brk _ => 0
  | .bin s _ _ => if s = 42 then 1 else 2
noncomputable def Wf.ok : Wf → Prop
  | .leaf t e => leafA t = some e
  | .brk w => w.ok
  | .bin s a b => (s = 42 ∧ a.lv ≤ 1 ∧ b.lv = 0 ∨ (s = 43 ∨ s = 45) ∧ b.lv ≤ 1) ∧ a.ok ∧ b.ok
/-! loops, whatever their fuel -/
section
variable {z : Str} {p : Nat → Rd1} {S : Str → Bool} {e f : Ex} {a a1 : Nat}
end
theorem st1_is {c d : Nat} {x : Str} (hx : x.cps = #[d]) : (st1 c = x) ↔ c = d := one_eq hx
theorem star42 : isStar (st1 42) = true := decide_eq_true ((st1_is c_star).mpr rfl)
theorem star_emp : isStar Str.empty = false := by decide +kernel
theorem sum_emp : isSum Str.empty = false := by decide +kernel
theorem sum_yes {c : Nat} (h : c = 43 ∨ c = 45) : isSum (st1 c) = true := by
  unfold isSum
  rcases h with rfl | rfl
  · rw [decide_eq_true ((st1_is c_plus).mpr rfl)]
    rfl
  · rw [decide_eq_true ((st1_is c_minus).mpr rfl), Bool.or_true]
noncomputable abbrev rdF (z : Str) (d : Nat) := fac z (inn z d)
noncomputable abbrev rdS (z : Str) (d : Nat) := row z (rdF z d) isStar
theorem fwdF (z : Str) (d : Nat) : Fwd (rdF z d) := fwd_fac (fwd_inn z d)
theorem fwdS (z : Str) (d : Nat) : Fwd (rdS z d) := fwd_row (fwdF z d)
noncomputable def Joint (v : List Nat) : Prop := ∀ c, v.head? = some c → noJ c = false
theorem leaf_ne {t : List Nat} {e : Ex} (h : leafA t = some e) : ∃ c r, t = c :: r ∧ noJ c = true := by
  cases t with
  | nil => rw [leafA_nil] at h; cases h
  | cons c r =>
    refine ⟨c, r, rfl, ?_⟩
    cases hc : noJ c with
    | true => rfl
    | false => rw [leafA_joint List.mem_cons_self hc] at h; cases h
theorem leaf_noJ {t : List Nat} {e : Ex} (h : leafA t = some e) : ∀ c ∈ t, noJ c = true := fun c hm => by
  cases hc : noJ c with
  | true => rfl
  | false => rw [leafA_joint hm hc] at h; cases h
end Car

set_option maxHeartbeats 1000000
namespace Car
open PySem L2
/-! ### the law's trees, and how it writes them -/
noncomputable def names10 : List Str := ["a", "m", "count", "xx", "zyx", "ends", "holdfast", "rivers", "vw", "wavemor"]
noncomputable def opOk (s : Str) : Prop := s = "+" ∨ s = "-" ∨ s = "*"
noncomputable def Dr : Ex → Prop
  | .num n => 0 ≤ n ∧ n < 1000000
  | .nam x => x ∈ names10
  | .bin s a b => opOk s ∧ Dr a ∧ Dr b
noncomputable def kd : Ex → Str
  | .num _ => "number"
  | .nam _ => "name"
  | .bin s _ _ => s
noncomputable def Ex.ht : Ex → Nat
  | .num _ => 0
  | .nam _ => 0
  | .bin _ a b => max a.ht b.ht + 1
noncomputable def Ex.nd : Ex → Nat
  | .num _ => 1
  | .nam _ => 1
  | .bin _ a b => a.nd + b.nd + 1
noncomputable def sumK (e : Ex) : Bool := decide (kd e = "+") || decide (kd e = "-")
noncomputable def cd (s : Str) : Nat := (cl s).headD 0
noncomputable def bI (c : Bool) (w : Wf) : Wf := if c = true then .brk w else w
noncomputable def lB (s : Str) (a : Ex) (m : Int) : Bool := (decide (s = "*") && sumK a) || decide (m % 5 = 1)
noncomputable def rB (s : Str) (b : Ex) (m : Int) : Bool := sumK b || ((decide (s = "*") && decide (kd b = "*")) || decide (m % 7 = 1))
noncomputable def txN (n : Int) : Str := Str.ofString (toString n)
noncomputable def wf : Ex → Int → Wf
  | .num n, _ => .leaf (cl (txN n)) (.num n)
  | .nam x, _ => .leaf (cl x) (.nam x)
  | .bin s a b, m => .bin (cd s) (bI (lB s a m) (wf a (m / 2))) (bI (rB s b m) (wf b (m / 3)))
theorem bI_ok {c : Bool} {w : Wf} (h : w.ok) : (bI c w).ok := by
  unfold bI
  split
  · exact h
  · exact h
theorem bI_ex {c : Bool} {w : Wf} : (bI c w).ex = w.ex := by
  unfold bI
  split <;> rfl
theorem bI_lv {c : Bool} {w : Wf} {n : Nat} (h : c = false → w.lv ≤ n) : (bI c w).lv ≤ n := by
  unfold bI
  split
  · exact Nat.zero_le _
  · rename_i q
    exact h (Bool.eq_false_iff.mpr q)
theorem cd_is {s : Str} (h : opOk s) : st1 (cd s) = s ∧ (s = "*" → cd s = 42) ∧ (s ≠ "*" → cd s = 43 ∨ cd s = 45) := by
  rcases h with rfl | rfl | rfl
  · exact ⟨by decide +kernel, fun q => absurd q (by decide +kernel), fun _ => .inl (by decide +kernel)⟩
  · exact ⟨by decide +kernel, fun q => absurd q (by decide +kernel), fun _ => .inr (by decide +kernel)⟩
  · exact ⟨by decide +kernel, fun _ => by decide +kernel, fun q => absurd rfl q⟩
/-! leaves -/
theorem names_ok : ∀ x ∈ names10, nameS x = true ∧ numS x = false ∧ x.length ≤ 8 := by
  have h : (names10.all fun x => nameS x && (!numS x && decide (x.length ≤ 8))) = true := by decide +kernel
  intro x hx
  have := List.all_eq_true.mp h x hx
  rw [Bool.and_eq_true, Bool.and_eq_true] at this
  exact ⟨this.1, by simpa using this.2.1, of_decide_eq_true this.2.2⟩
theorem stl_cl (z : Str) : stl (cl z) = z := by
  apply Str.ext'
  simp
theorem leaf_nam {x : Str} (h : x ∈ names10) : leafA (cl x) = some (.nam x) := by
  obtain ⟨h1, h2, _⟩ := names_ok x h
  unfold leafA
  rw [stl_cl, h2, h1]
  rfl
theorem digs_head : ∀ m : Nat, ∃ c r, (Nat.toDigits 10 m).map Char.toNat = c :: r ∧ (c = 48 → m = 0) := by
  intro m
  induction m using Nat.strongRecOn with
  | _ m ih =>
    by_cases h : m < 10
    · rw [Nat.toDigits_of_lt_base h]
      refine ⟨(Nat.digitChar m).toNat, [], rfl, fun q => ?_⟩
      have := PySem.W.KIN.digit_back m h
      omega
    · have hm : m % 10 < 10 := Nat.mod_lt m (by decide)
      have t : Nat.toDigits 10 (m / 10) ++ Nat.toDigits 10 (m % 10) = Nat.toDigits 10 (10 * (m / 10) + m % 10) := Nat.toDigits_append_toDigits (by decide) (by omega) hm
      rw [Nat.div_add_mod] at t
      obtain ⟨c, r, e, hc⟩ := ih (m / 10) (by omega)
      refine ⟨c, r ++ (Nat.toDigits 10 (m % 10)).map Char.toNat, by rw [← t, List.map_append, e]; rfl, fun q => ?_⟩
      have := hc q
      omega
theorem digs_fig (m : Nat) : ∀ c ∈ (Nat.toDigits 10 m).map Char.toNat, 48 ≤ c ∧ c ≤ 57 := fun c hc => by
  obtain ⟨ch, hch, e⟩ := List.mem_map.mp hc
  have r := PyProof.Rows.digit_range (Nat.isDigit_of_mem_toDigits (by decide) (by decide) hch)
  rw [← e]
  exact r
theorem cl_fig : cl figT = [48, 49, 50, 51, 52, 53, 54, 55, 56, 57] := by decide +kernel
theorem txN_len {n : Int} (h0 : 0 ≤ n) (h1 : n < 1000000) : (txN n).length ≤ 6 := PyProof.Rows.toString_length_le (k := 6) h0 (by decide) h1
theorem leaf_num {n : Int} (h0 : 0 ≤ n) (h1 : n < 1000000) : leafA (cl (txN n)) = some (.num n) := by
  have hl := txN_len h0 h1
  obtain ⟨m, rfl⟩ := Int.eq_ofNat_of_zero_le h0
  have hs : cl (txN ((m : Nat) : Int)) = (Nat.toDigits 10 m).map Char.toNat := PySem.W.KIN.signs_num m
  obtain ⟨c, r, hd, hc⟩ := digs_head m
  have hv : numV (txN ((m : Nat) : Int)) = ((m : Nat) : Int) := by
    unfold numV
    rw [hs, PySem.W.KIN.val_back]
  have hw : wrt (txN ((m : Nat) : Int)) figT = true := by
    unfold wrt
    rw [hs, List.all_eq_true]
    intro c hc
    have := digs_fig m c hc
    refine decide_eq_true ?_
    rw [cl_fig]
    simp
    omega
  have hn : numS (txN ((m : Nat) : Int)) = true := by
    unfold numS
    have l1 : 1 ≤ (txN ((m : Nat) : Int)).length := by
      rw [← len_cl, hs, hd]
      simp
    rw [hw, decide_eq_true ⟨l1, hl⟩]
    show (decide (txN ((m : Nat) : Int) = "0") || decide ((txN ((m : Nat) : Int)).cps[0]? ≠ some 48)) = true
    by_cases h48 : c = 48
    · have := hc h48
      subst this
      rw [decide_eq_true (show txN ((0 : Nat) : Int) = "0" by decide +kernel)]
      rfl
    · have e : (txN ((m : Nat) : Int)).cps[0]? = some c := by
        have : (cl (txN ((m : Nat) : Int)))[0]? = some c := by rw [hs, hd]; rfl
        simpa using this
      rw [e, decide_eq_true (p := some c ≠ some 48) (fun q => h48 (Option.some.inj q)), Bool.or_true]
  unfold leafA
  rw [stl_cl, hn, hv]
  rfl
theorem wf_lv {e : Ex} {m : Int} (h : Dr e) : ((wf e m).lv = 0 ↔ sumK e = false ∧ kd e ≠ "*") ∧ ((wf e m).lv ≤ 1 ↔ sumK e = false) := by
  cases e with
  | num n => exact ⟨⟨fun _ => ⟨rfl, by show ("number" : Str) ≠ "*"; decide⟩, fun _ => rfl⟩, ⟨fun _ => rfl, fun _ => by show 0 ≤ 1; omega⟩⟩
  | nam x => exact ⟨⟨fun _ => ⟨rfl, by show ("name" : Str) ≠ "*"; decide⟩, fun _ => rfl⟩, ⟨fun _ => rfl, fun _ => by show 0 ≤ 1; omega⟩⟩
  | bin s a b =>
    have hs : opOk s := h.1
    show ((if cd s = 42 then 1 else 2) = 0 ↔ sumK (.bin s a b) = false ∧ s ≠ "*") ∧ ((if cd s = 42 then 1 else 2) ≤ 1 ↔ sumK (.bin s a b) = false)
    have sk : ∀ s, sumK (.bin s a b) = (decide (s = "+") || decide (s = "-")) := fun _ => rfl
    rcases hs with rfl | rfl | rfl
    · have e1 : cd "+" = 43 := by decide +kernel
      have e2 : sumK (.bin "+" a b) = true := by rw [sk]; decide +kernel
      rw [e1, e2]
      simp
    · have e1 : cd "-" = 45 := by decide +kernel
      have e2 : sumK (.bin "-" a b) = true := by rw [sk]; decide +kernel
      rw [e1, e2]
      simp
    · have e1 : cd "*" = 42 := by decide +kernel
      have e2 : sumK (.bin "*" a b) = false := by rw [sk]; decide +kernel
      rw [e1, e2]
      simp
theorem wf_ok : ∀ (e : Ex) (m : Int), Dr e → (wf e m).ok ∧ (wf e m).ex = e ∧ (wf e m).tx.length ≤ 12 * e.nd
  | .num n, m, h => ⟨leaf_num h.1 h.2, rfl, by
      have := txN_len h.1 h.2
      rw [← len_cl] at this
      show (cl (txN n)).length ≤ 12 * 1
      omega⟩
  | .nam x, m, h => ⟨leaf_nam h, rfl, by
      have := (names_ok x h).2.2
      rw [← len_cl] at this
      show (cl x).length ≤ 12 * 1
      omega⟩
  | .bin s a b, m, h => by
    obtain ⟨hs, ha, hb⟩ := h
    obtain ⟨a1, a2, a3⟩ := wf_ok a (m / 2) ha
    obtain ⟨b1, b2, b3⟩ := wf_ok b (m / 3) hb
    obtain ⟨c1, c2, c3⟩ := cd_is hs
    have la := (wf_lv (m := m / 2) ha).2
    have lb := wf_lv (m := m / 3) hb
    have rbf : rB s b m = false → sumK b = false ∧ (s = "*" → kd b ≠ "*") := fun q => by
      unfold rB at q
      rw [Bool.or_eq_false_iff, Bool.or_eq_false_iff, Bool.and_eq_false_iff] at q
      refine ⟨q.1, fun e => ?_⟩
      rcases q.2.1 with h | h
      · exact absurd e (of_decide_eq_false h)
      · exact of_decide_eq_false h
    have bl : ∀ (c : Bool) (w : Wf) (n : Nat), w.tx.length ≤ n → (bI c w).tx.length ≤ n + 2 := fun c w n q => by
      unfold bI
      split
      · show (40 :: (w.tx ++ [41])).length ≤ n + 2
        simp
        omega
      · omega
    refine ⟨⟨?_, bI_ok a1, bI_ok b1⟩, ?_, ?_⟩
    · by_cases e : s = "*"
      · refine .inl ⟨c2 e, bI_lv fun q => la.mpr ?_, Nat.le_zero.mp (bI_lv fun q => Nat.le_of_eq (lb.1.mpr ⟨(rbf q).1, (rbf q).2 e⟩))⟩
        unfold lB at q
        rw [Bool.or_eq_false_iff, decide_eq_true e, Bool.true_and] at q
        exact q.1
      · exact .inr ⟨c3 e, bI_lv fun q => lb.2.mpr (rbf q).1⟩
    · show Ex.bin (st1 (cd s)) (bI _ _).ex (bI _ _).ex = _
      rw [c1, bI_ex, bI_ex, a2, b2]
    · show ((bI (lB s a m) (wf a (m / 2))).tx ++ cd s :: (bI (rB s b m) (wf b (m / 3))).tx).length ≤ 12 * (a.nd + b.nd + 1)
      have h1 := bl (lB s a m) _ _ a3
      have h2 := bl (rB s b m) _ _ b3
      simp
      omega
/-! ### how deep the brackets go -/
end Car

set_option maxHeartbeats 1000000
namespace Car
open PySem L2
noncomputable abbrev sStir : Stmt := top 18
noncomputable abbrev sNm : Stmt := top 19
noncomputable abbrev sTree : Stmt := top 20
noncomputable abbrev sWorded : Stmt := top 21
noncomputable abbrev sSpoilt : Stmt := top 22
noncomputable abbrev sParts : Stmt := top 23
noncomputable abbrev sGoodF : Stmt := top 24
noncomputable abbrev sGood : Stmt := top 25
noncomputable abbrev sRefused : Stmt := top 26
noncomputable abbrev sLaw : Stmt := top 27
theorem at_memG {α : Type} {xs : List α} {i : Int} (h0 : 0 ≤ i) (h : i < (xs.length : Int)) : ∃ v, atI xs i = some v ∧ v ∈ xs := by
  obtain ⟨k, rfl⟩ := Int.eq_ofNat_of_zero_le h0
  have hk : k < xs.length := by omega
  exact ⟨xs[k], atI_nat (List.getElem?_eq_getElem hk), List.getElem_mem hk⟩
theorem decI (x y : Int) : decide (V.int x = V.int y) = decide (x = y) := by
  by_cases h : x = y
  · rw [decide_eq_true h, decide_eq_true (by rw [h])]
  · rw [decide_eq_false h, decide_eq_false (fun z => h (by injection z))]
theorem le10 : 10 ≤ sizeLine := by decide
section
variable {P : Program} {w : World} {K : PySem.W.Frag} {mg : Str → Option Value} {base : Heap} {f : Addr} {fd' : FuncData}
noncomputable def spStir : Sp := fun vs H Q _ => ∃ cell k : Int, vs = [.int cell, .int k] ∧ 0 ≤ k ∧ k ≤ 1000 ∧ ∀ n : Int, 0 ≤ n → n < 268435456 → Q (.int n) H
theorem scStir : FnScope ["cell", "k", "number"] ["cell", "k"] (defScope sStir) := ⟨rfl, rfl, rfl, by decide +kernel, rfl, by decide +kernel, by decide +kernel⟩
theorem ok_stir (F : Fun K "_law_stir" "_law_stir" sStir f fd') : FnOk P w K mg base (CX1 P w) 1 f fd' ["cell", "k"] spStir := by
  have nd := scStir.nd
  refine F.ok1 scStir (fun vs H Q E h => ?_) (fun cdv A outer s H vs Q E hr h => ?_)
  · obtain ⟨cell, k, rfl, _⟩ := h
    rfl
  obtain ⟨cell, k, rfl, k0, k1, q⟩ := h
  refine ⟨_, (pss_cons (ps_if (pt_cmpR op_eq (pe_op op_mod (pv 0) pe_int) pe_int (nomark _)) (pss_one (ps_ret (pe_op op_mod (pe_op op_shr (pe_op op_fdiv (pv 0) pe_int) (pe_op op_mul pe_int (pv 1))) (pe_op op_pow pe_int pe_int)))) pss_nil)
    (pss_cons (ps_set (i := 2) nd rfl (Or.inl rfl) (pe_op op_mod (pe_op op_mul (pe_op op_add (pe_op op_add (pe_op op_mod (pv 0) (pe_op op_pow pe_int pe_int)) (pe_op op_mul pe_int (pv 1))) pe_int) pe_int) pe_int))
    (pss_cons (ps_set (i := 2) nd rfl (Or.inl rfl) (pe_op op_mod (pe_op op_mul (pv 2) (pv 2)) pe_int))
    (pss_one (ps_ret (pe_op op_fdiv (pe_op op_mod (pe_op op_mul (pv 2) pe_int) pe_int) pe_int)))))), ?_⟩
  refine ⟨_, rfl, _, _, rfl, rfl, (by show (0 : Int) < 2; decide), rfl, _, rfl, ?_⟩
  refine ite2 (fun _ => ?_) (fun _ => ?_)
  · refine ⟨_, rfl, _, _, rfl, rfl, ⟨by decide, by decide⟩, _, rfl, _, _, rfl, rfl, .inl ⟨by decide, by decide⟩, _, _, rfl, rfl, (by show (0 : Int) ≤ 28 * k; omega), _, _, rfl, rfl, ⟨by decide, by decide, by decide⟩, _, _, rfl, rfl, (by show (0 : Int) < 2 ^ (28 : Int).toNat; decide), ?_⟩
    have b := mod_lt (cell / 2 / 2 ^ (28 * k).toNat) (show (0 : Int) < 2 ^ (28 : Int).toNat by decide)
    exact q _ b.1 (Int.lt_of_lt_of_le b.2 (by decide))
  · refine ⟨_, rfl, _, _, rfl, rfl, ⟨by decide, by decide, by decide⟩, _, _, rfl, rfl, (by show (0 : Int) < 10 ^ (12 : Int).toNat; decide), _, rfl, _, _, rfl, rfl, .inl ⟨by decide, by decide⟩, _, _, rfl, rfl, _, _, rfl, rfl, _, _, rfl, rfl, .inr ⟨by decide, by decide⟩, _, _, rfl, rfl, (by show (0 : Int) < 2147483647; decide), ?_⟩
    have b := mod_lt ((cell % 10 ^ (12 : Int).toNat + 1013 * k + 1) * 16807) (show (0 : Int) < 2147483647 by decide)
    generalize (cell % 10 ^ (12 : Int).toNat + 1013 * k + 1) * 16807 % 2147483647 = m at b
    refine ⟨_, rfl, _, rfl, _, _, rfl, rfl, .inl ⟨by omega, by omega⟩, _, _, rfl, rfl, (by show (0 : Int) < 2147483629; decide), ?_⟩
    have b2 := mod_lt (m * m) (show (0 : Int) < 2147483629 by decide)
    generalize m * m % 2147483629 = m2 at b2
    refine ⟨_, rfl, _, _, rfl, rfl, .inr ⟨by decide, by decide⟩, _, _, rfl, rfl, (by show (0 : Int) < 2147483587; decide), _, _, rfl, rfl, ⟨by decide, by decide⟩, ?_⟩
    have b3 := mod_lt (m2 * 39373) (show (0 : Int) < 2147483587 by decide)
    generalize m2 * 39373 % 2147483587 = m3 at b3
    exact q _ (by omega) (by omega)
/-! ### _law_name -/
noncomputable def spNm : Sp := fun vs H Q _ => ∃ n : Int, vs = [.int n] ∧ ∀ x ∈ names10, ∀ H', Same H H' → Q (.str x) H'
theorem scNm : FnScope ["number", "names"] ["number"] (defScope sNm) := ⟨rfl, rfl, rfl, by decide +kernel, rfl, by decide +kernel, by decide +kernel⟩
theorem ok_nm (F : Fun K "_law_name" "_law_name" sNm f fd') : FnOk P w K mg base (CX1 P w) 1 f fd' ["number"] spNm := by
  have nd := scNm.nd
  refine F.ok1 scNm (fun vs H Q E h => ?_) (fun cdv A outer s H vs Q E hr h => ?_)
  · obtain ⟨n, rfl, _⟩ := h
    rfl
  obtain ⟨n, rfl, q⟩ := h
  refine ⟨_, (pss_cons (ps_set (i := 1) nd rfl (Or.inl rfl) (pe_lst (pa_cons pe_str (pa_cons pe_str (pa_cons pe_str (pa_cons pe_str (pa_cons pe_str (pa_cons pe_str (pa_cons pe_str (pa_cons pe_str (pa_cons pe_str (pa_cons pe_str pa_nil))))))))))))
    (pss_one (ps_ret (pe_ix (ix_listK (K := K) rfl) (pv 1) (pe_op op_mod (pv 0) pe_int) (fun _ _ => rfl))))), ?_⟩
  refine ⟨le10, fun p hp => ?_⟩
  have b := mod_lt n (show (0 : Int) < 10 by decide)
  obtain ⟨v, hv, hm⟩ := at_memG (xs := names10.map V.str) (i := n % 10) b.1 b.2
  obtain ⟨x, hx, rfl⟩ := List.mem_map.mp hm
  exact ⟨_, rfl, _, rfl, _, _, rfl, rfl, (by show (0 : Int) < 10; decide), p, _, _, _, rfl, rfl, SqL.of upd_same, hv, q x hx _ (same_upd hp _)⟩
/-! ### _law_tree -/
noncomputable def spTree (K : PySem.W.Frag) (d : Nat) : Sp := fun vs H Q _ => ∃ cell k : Int, vs = [.int cell, .int k, .int d] ∧ 0 ≤ k ∧ (k + 2) * 2 ^ d ≤ 1000 ∧ ∀ e v H', Dr e → e.ht ≤ d → e.nd < 2 ^ (d + 1) → Same H H' → Rp K H' v e.dat → Q v H'
theorem scTree : FnScope ["cell", "k", "deep", "number", "sign"] ["cell", "k", "deep"] (defScope sTree) := ⟨rfl, rfl, rfl, by decide +kernel, rfl, by decide +kernel, by decide +kernel⟩
theorem sign3 {i : Int} (h0 : 0 ≤ i) (h1 : i < 3) : ∃ c, atI (Str.ofString "+-*").cps.toList i = some c ∧ opOk (st1 c) := by
  have e : (Str.ofString "+-*").cps.toList = [43, 45, 42] := by decide +kernel
  rw [e]
  obtain ⟨c, hc, hm⟩ := at_memG (xs := [43, 45, 42]) h0 h1
  refine ⟨c, hc, ?_⟩
  rcases List.mem_cons.mp hm with rfl | hm
  · exact .inl ((st1_is c_plus).mpr rfl)
  rcases List.mem_cons.mp hm with rfl | hm
  · exact .inr (.inl ((st1_is c_minus).mpr rfl))
  rcases List.mem_cons.mp hm with rfl | hm
  · exact .inr (.inr ((st1_is c_star).mpr rfl))
  · cases hm
theorem pow_k {k : Int} {d : Nat} (h0 : 0 ≤ k) (h : (k + 2) * 2 ^ d ≤ 1000) : k ≤ 1000 := by
  have h1 : (1 : Int) ≤ 2 ^ d := by
    have : (0 : Int) < 2 ^ d := Int.pow_pos (by decide)
    omega
  have h2 : (k + 2) * 1 ≤ (k + 2) * 2 ^ d := Int.mul_le_mul_of_nonneg_left h1 (by omega)
  omega
theorem ok_tree1 {d : Nat} (FS : Fn P w K mg base "_law_stir" 1 ["cell", "k"] spStir) (FN : Fn P w K mg base "_law_name" 1 ["number"] spNm) (FR : Fn P w K mg base "_law_tree" (d + 1) ["cell", "k", "deep"] (fun vs H Q E => ∃ m, m + 1 = d ∧ spTree K m vs H Q E))
    (F : Fun K "_law_tree" "_law_tree" sTree f fd') : FnOk P w K mg base (CX1 P w) (d + 2) f fd' ["cell", "k", "deep"] (spTree K d) := by
  have nd := scTree.nd
  refine F.ok1 scTree (fun vs H Q E h => ?_) (fun cdv A outer s H vs Q E hr h => ?_)
  · obtain ⟨cell, k, rfl, _⟩ := h
    rfl
  obtain ⟨cell, k, rfl, k0, kd, q⟩ := h
  have hr1 : Room 1 _ := hr.mono (show 1 ≤ d + 1 by omega)
  refine ⟨_, (pss_cons (ps_set (i := 3) nd rfl (Or.inl rfl) (pf_call FS hr1 rfl (pass1 (E := E)) (pa_cons (pv 0) (pa_cons (pv 1) pa_nil))))
    (pss_mid (ps_if (PW.pt (pw_or (pt_cmpR op_eq (pv 2) pe_int (nomark _)) (pw_or1 (pt_cmpR op_eq (pe_op op_mod (pv 3) pe_int) pe_int (nomark _))))) (pss_cons (ps_if (pt_cmpR op_eq (pe_op op_mod (pe_op op_fdiv (pv 3) pe_int) pe_int) pe_int (nomark _)) (pss_one (ps_ret (pe_tup (pa_cons pe_str (pa_cons (pf_call FN hr1 rfl (pass1 (E := E)) (pa_cons (pe_op op_fdiv (pv 3) pe_int) pa_nil)) pa_nil))))) pss_nil)
    (pss_one (ps_ret (pe_tup (pa_cons pe_str (pa_cons (pe_op op_mod (pe_op op_fdiv (pv 3) pe_int) (pe_ix (ix_listK (K := K) rfl) (pe_lst (pa_cons pe_int (pa_cons pe_int pa_nil))) (pe_op op_mod (pe_op op_fdiv (pv 3) pe_int) pe_int) (fun _ _ => rfl))) pa_nil)))))) pss_nil)
    (pss_cons (ps_set (i := 4) nd rfl (Or.inl rfl) (pe_ix ix_str pe_str (pe_op op_mod (pe_op op_fdiv (pv 3) pe_int) pe_int) (fun _ _ => rfl)))
    (pss_one (ps_ret (pe_tup (pa_cons (pv 4) (pa_cons (pf_call FR hr rfl (pass1 (E := E)) (pa_cons (pv 0) (pa_cons (pe_op op_add (pe_op op_mul pe_int (pv 1)) pe_int) (pa_cons (pe_op op_sub (pv 2) pe_int) pa_nil)))) (pa_cons (pf_call FR hr rfl (pass1 (E := E)) (pa_cons (pv 0) (pa_cons (pe_op op_add (pe_op op_mul pe_int (pv 1)) pe_int) (pa_cons (pe_op op_sub (pv 2) pe_int) pa_nil)))) pa_nil))))))))), ?_⟩
  refine ⟨_, rfl, _, rfl, cell, k, rfl, k0, pow_k k0 kd, fun n n0 n1 => ?_⟩
  have hn1 : 1 < 2 ^ (d + 1) := Nat.one_lt_two_pow (by omega)
  refine ⟨fun σ H1 => σ = [some (.int cell), some (.int k), some (.int d), some (.int n), none] ∧ H1 = H ∧ 0 < d, ?_, ?_⟩
  · refine ⟨_, rfl, rfl, _, rfl, ?_⟩
    rw [decI]
    refine ite2 (fun c => iteT ?_) (fun c => ?_)
    · refine ⟨_, rfl, _, _, rfl, rfl, ⟨by decide, by decide⟩, _, _, rfl, rfl, (by show (0 : Int) < 2; decide), rfl, _, rfl, ?_⟩
      refine ite2 (fun _ => ?_) (fun _ => ?_)
      · exact ⟨_, rfl, _, _, rfl, rfl, ⟨by decide, by decide⟩, _, rfl, fun x hx H1 s1 => ⟨le2, fun t ht => q (.nam x) _ _ hx (Nat.zero_le _) hn1 (s1.trans (same_upd ht _)) (.tup (SqT.of upd_same) (.cons (.str _) (.cons (.str _) .nil)))⟩⟩
      · refine ⟨_, rfl, _, _, rfl, rfl, ⟨by decide, by decide⟩, le2, fun a ha => ?_⟩
        have b := mod_lt (n / 60) (show (0 : Int) < 2 by decide)
        obtain ⟨v, hv, hm⟩ := at_memG (xs := [V.int 10, .int 1000000]) (i := n / 60 % 2) b.1 b.2
        obtain ⟨m, rfl, m0, m1⟩ : ∃ m : Int, v = .int m ∧ 0 < m ∧ m ≤ 1000000 := by
          repeat (rcases List.mem_cons.mp hm with rfl | hm; exact ⟨_, rfl, by decide, by decide⟩)
          cases hm
        have bm := mod_lt (n / 6) m0
        exact ⟨_, rfl, _, _, rfl, rfl, ⟨by decide, by decide⟩, _, _, rfl, rfl, (by show (0 : Int) < 2; decide), a, _, _, _, rfl, rfl, SqL.of upd_same, hv, _, _, rfl, rfl, m0, le2, fun t ht => q (.num (n / 6 % m)) _ _ ⟨bm.1, by omega⟩ (Nat.zero_le _) hn1 ((same_upd ha _).trans (same_upd ht _)) (.tup (SqT.of upd_same) (.cons (.str _) (.cons (.int _) .nil)))⟩
    · have c' : ¬ ((d : Int) = 0) := fun h => c (decide_eq_true h)
      refine ⟨_, rfl, _, _, rfl, rfl, (by show (0 : Int) < 3; decide), rfl, _, rfl, ?_⟩
      refine ite2 (fun _ => ?_) (fun _ => ⟨rfl, rfl, by omega⟩)
      refine ⟨_, rfl, _, _, rfl, rfl, ⟨by decide, by decide⟩, _, _, rfl, rfl, (by show (0 : Int) < 2; decide), rfl, _, rfl, ?_⟩
      refine ite2 (fun _ => ?_) (fun _ => ?_)
      · exact ⟨_, rfl, _, _, rfl, rfl, ⟨by decide, by decide⟩, _, rfl, fun x hx H1 s1 => ⟨le2, fun t ht => q (.nam x) _ _ hx (Nat.zero_le _) hn1 (s1.trans (same_upd ht _)) (.tup (SqT.of upd_same) (.cons (.str _) (.cons (.str _) .nil)))⟩⟩
      · refine ⟨_, rfl, _, _, rfl, rfl, ⟨by decide, by decide⟩, le2, fun a ha => ?_⟩
        have b := mod_lt (n / 60) (show (0 : Int) < 2 by decide)
        obtain ⟨v, hv, hm⟩ := at_memG (xs := [V.int 10, .int 1000000]) (i := n / 60 % 2) b.1 b.2
        obtain ⟨m, rfl, m0, m1⟩ : ∃ m : Int, v = .int m ∧ 0 < m ∧ m ≤ 1000000 := by
          repeat (rcases List.mem_cons.mp hm with rfl | hm; exact ⟨_, rfl, by decide, by decide⟩)
          cases hm
        have bm := mod_lt (n / 6) m0
        exact ⟨_, rfl, _, _, rfl, rfl, ⟨by decide, by decide⟩, _, _, rfl, rfl, (by show (0 : Int) < 2; decide), a, _, _, _, rfl, rfl, SqL.of upd_same, hv, _, _, rfl, rfl, m0, le2, fun t ht => q (.num (n / 6 % m)) _ _ ⟨bm.1, by omega⟩ (Nat.zero_le _) hn1 ((same_upd ha _).trans (same_upd ht _)) (.tup (SqT.of upd_same) (.cons (.str _) (.cons (.int _) .nil)))⟩
  · rintro σ H1 ⟨rfl, rfl, hd⟩
    obtain ⟨m, rfl⟩ : ∃ m, d = m + 1 := ⟨d - 1, by omega⟩
    have b := mod_lt (n / 3) (show (0 : Int) < 3 by decide)
    obtain ⟨c, hc, oc⟩ := sign3 b.1 b.2
    have e1 : (((m + 1 : Nat) : Int) - 1) = (m : Int) := by omega
    have hk : ∀ j : Int, j ≤ 2 → (2 * k + j + 2) * 2 ^ m ≤ 1000 := fun j hj => by
      have h1 : (0 : Int) < 2 ^ m := Int.pow_pos (by decide)
      have h2 : (2 * k + j + 2) * 2 ^ m ≤ ((k + 2) * 2) * 2 ^ m := Int.mul_le_mul_of_nonneg_right (by omega) (by omega)
      have h3 : ((k + 2) * 2) * 2 ^ m = (k + 2) * 2 ^ (m + 1) := by rw [Int.pow_succ, Int.mul_assoc, Int.mul_comm 2]
      omega
    refine ⟨_, rfl, _, _, rfl, rfl, ⟨by decide, by decide⟩, _, _, rfl, rfl, (by show (0 : Int) < 3; decide), _, _, c, rfl, rfl, (by decide), hc, ?_⟩
    refine ⟨_, rfl, _, rfl, _, rfl, _, _, rfl, rfl, .inl ⟨by decide, by decide⟩, _, _, rfl, rfl, _, rfl, _, _, rfl, rfl, m, rfl, cell, 2 * k + 1, (by rw [← e1]; rfl), by omega, hk 1 (by decide), fun e1' v1 H2 d1 t1 z1 s1 r1 => ?_⟩
    refine ⟨_, rfl, _, rfl, _, _, rfl, rfl, .inl ⟨by decide, by decide⟩, _, _, rfl, rfl, _, rfl, _, _, rfl, rfl, m, rfl, cell, 2 * k + 2, (by rw [← e1]; rfl), by omega, hk 2 (by decide), fun e2' v2 H3 d2 t2 z2 s2 r2 => ?_⟩
    refine ⟨le3, fun t ht => q (.bin (st1 c) e1' e2') _ _ ⟨oc, d1, d2⟩ (by show max e1'.ht e2'.ht + 1 ≤ m + 1; omega) (by show e1'.nd + e2'.nd + 1 < 2 ^ (m + 1 + 1); rw [Nat.pow_succ]; omega) (s1.trans (s2.trans (same_upd ht _))) ?_⟩
    exact .tup (SqT.of upd_same) (.cons (.str _) (.cons (r1.same (s2.trans (same_upd ht _))) (.cons (r2.same (same_upd ht _)) .nil)))
theorem ok_tree (FS : Fn P w K mg base "_law_stir" 1 ["cell", "k"] spStir) (FN : Fn P w K mg base "_law_name" 1 ["number"] spNm) (hm : mg "_law_tree" = some (.ref f)) (kp : PySem.W.keepIn K (.ref f) = true) (bi : Binds K fd' ["cell", "k", "deep"] []) (F : Fun K "_law_tree" "_law_tree" sTree f fd') : ∀ d, Fn P w K mg base "_law_tree" (d + 2) ["cell", "k", "deep"] (spTree K d)
  | 0 => ⟨f, fd', ok_tree1 FS FN ⟨f, fd', ⟨fun vs H Q E ⟨m, hm, _⟩ => absurd hm (by omega), fun _ _ _ _ _ _ _ _ _ _ _ _ _ ⟨m, hm, _⟩ => absurd hm (by omega)⟩, hm, kp, bi⟩ F, hm, kp, bi⟩
  | m + 1 => by
    obtain ⟨f0, fd0, ok0, hm0, kp0, bi0⟩ := (ok_tree FS FN hm kp bi F m).ex
    exact ⟨f, fd', ok_tree1 FS FN ⟨f0, fd0, ok0.imp fun vs H Q E ⟨m1, e, h⟩ => (by have z : m1 = m := (by omega); subst z; exact h), hm0, kp0, bi0⟩ F, hm, kp, bi⟩
end
end Car

set_option maxHeartbeats 1000000
namespace Car
open PySem L2
theorem bt_str : bootBuiltins "str" = some (.type "str") := by decide +kernel
theorem log_small {n : Nat} (h : n < 2 ^ 64) : n.log2 < 1920 := by
  by_cases h0 : n = 0
  · subst h0
    decide
  · exact Nat.lt_of_lt_of_le ((Nat.log2_lt h0).mpr h) (by decide)
section
variable {P : Program} {w : World} {K : PySem.W.Frag} {mg : Str → Option Value} {base : Heap} {f : Addr} {fd' : FuncData}
noncomputable def spWorded (K : PySem.W.Frag) (h : Nat) : Sp := fun vs H Q _ => ∃ v e, ∃ m : Int, vs = [v, .int m] ∧ Rp K H v e.dat ∧ Dr e ∧ e.ht ≤ h ∧ e.nd ≤ 60 ∧ ∀ z H', cl z = (wf e m).tx → Same H H' → Q (.str z) H'
theorem scWorded : FnScope ["tree", "more", "left", "right"] ["tree", "more"] (defScope sWorded) := ⟨rfl, rfl, rfl, by decide +kernel, rfl, by decide +kernel, by decide +kernel⟩
/-- a tree's tuple -/
theorem tree_bin {H : Hp} {v : V} {s : Str} {a b : Ex} (r : Rp K H v (Ex.bin s a b).dat) : ∃ t va vb, v = .ref t ∧ SqT K H t [.str s, va, vb] ∧ Rp K H va a.dat ∧ Rp K H vb b.dat := by
  obtain ⟨t, xs, rfl, sq, rs⟩ := L2.Rp.tupO (show Rp K H v (.tuple [.str s, a.dat, b.dat]) from r)
  obtain ⟨x1, xs1, rfl, r1, rs⟩ := rs.consO
  obtain ⟨x2, xs2, rfl, r2, rs⟩ := rs.consO
  obtain ⟨x3, xs3, rfl, r3, rs⟩ := rs.consO
  rw [rs.nilO, r1.strO] at sq
  exact ⟨t, x2, x3, rfl, sq, r2, r3⟩
/-- its first thing -/
theorem tree_kd {H : Hp} {v : V} (e : Ex) (r : Rp K H v e.dat) : ∃ t xs, v = .ref t ∧ SqT K H t (.str (kd e) :: xs) := by
  cases e with
  | num n =>
    obtain ⟨t, xs, rfl, sq, rs⟩ := L2.Rp.tupO (show Rp K H v (.tuple [.str "number", .int n]) from r)
    obtain ⟨x1, xs1, rfl, r1, rs⟩ := rs.consO
    rw [r1.strO] at sq
    exact ⟨t, xs1, rfl, sq⟩
  | nam x =>
    obtain ⟨t, xs, rfl, sq, rs⟩ := L2.Rp.tupO (show Rp K H v (.tuple [.str "name", .str x]) from r)
    obtain ⟨x1, xs1, rfl, r1, rs⟩ := rs.consO
    rw [r1.strO] at sq
    exact ⟨t, xs1, rfl, sq⟩
  | bin s a b =>
    obtain ⟨t, va, vb, rfl, sq, _, _⟩ := tree_bin r
    exact ⟨t, _, rfl, sq⟩
end
end Car

set_option maxHeartbeats 1000000
namespace Car
open PySem L2
theorem ifF (a b : Bool) : (if false = true then a else b) = b := rfl
theorem ifT (a b : Bool) : (if true = true then a else b) = a := rfl
theorem eqS (x a : Str) : eqV (.str a) (.str x) = decide (x = a) := by
  show (a == x) = _
  by_cases h : x = a
  · subst h
    rw [decide_eq_true rfl]
    exact beq_self_eq_true x
  · rw [decide_eq_false h]
    exact beq_eq_false_iff_ne.mpr fun q => h q.symm
theorem in2 (x a b : Str) : inV (.str x) [.str a, .str b] = (decide (x = a) || decide (x = b)) := by
  unfold inV
  rw [List.any_cons, List.any_cons, List.any_nil, eqS, eqS, Bool.or_false]
theorem in3 (x a b c : Str) : inV (.str x) [.str a, .str b, .str c] = (decide (x = a) || (decide (x = b) || decide (x = c))) := by
  unfold inV
  rw [List.any_cons, List.any_cons, List.any_cons, List.any_nil, eqS, eqS, eqS, Bool.or_false]
theorem at0 {x : V} {xs : List V} : atI (x :: xs) 0 = some x := show atI (x :: xs) ((0 : Nat) : Int) = some x from atI_nat rfl
theorem op_not {s : Str} (h : opOk s) : (decide (s = "number") || decide (s = "name")) = false := by
  rcases h with rfl | rfl | rfl <;> decide +kernel
theorem c_par (z : Str) : cl (Str.ofString "(" ++ z ++ Str.ofString ")") = 40 :: (cl z ++ [41]) := by
  have h : ∀ y z : Str, cl (y ++ z) = cl y ++ cl z := fun y z => by
    show (y.cps ++ z.cps).toList = _
    simp
  rw [h, h, show cl (Str.ofString "(") = [40] by decide +kernel, show cl (Str.ofString ")") = [41] by decide +kernel]
  rfl
theorem cl_app (y z : Str) : cl (y ++ z) = cl y ++ cl z := by
  show (y.cps ++ z.cps).toList = _
  simp
section
variable {P : Program} {w : World} {K : PySem.W.Frag} {mg : Str → Option Value} {base : Heap} {f : Addr} {fd' : FuncData}
theorem ok_worded1 {h : Nat} (hst : mg "str" = none) (FR : Fn P w K mg base "_law_worded" h ["tree", "more"] (fun vs H Q E => ∃ m, m + 1 = h ∧ spWorded K m vs H Q E))
    (F : Fun K "_law_worded" "_law_worded" sWorded f fd') : FnOk P w K mg base (CX1 P w) (h + 1) f fd' ["tree", "more"] (spWorded K h) := by
  have nd := scWorded.nd
  refine F.ok1 scWorded (fun vs H Q E h => ?_) (fun cdv A outer s H vs Q E hr h => ?_)
  · obtain ⟨v, e, m, rfl, _⟩ := h
    rfl
  obtain ⟨v, e, m, rfl, re, de, he, hn, q⟩ := h
  refine ⟨_, (pss_cons (ps_if (pt_cmpR op_in_seq (pe_ix ix_tup (pv 0) pe_int (fun _ _ => rfl)) (pe_lst (pa_cons pe_str (pa_cons pe_str pa_nil))) (by with_unfolding_all rfl)) (pss_one (ps_ret (pe_callTy call_strB rfl hst bt_str (pa_cons (pe_ix ix_tup (pv 0) pe_int (fun _ _ => rfl)) pa_nil)))) pss_nil)
    (pss_cons (ps_set (i := 2) nd rfl (Or.inl rfl) (pf_call FR hr rfl (pass1 (E := E)) (pa_cons (pe_ix ix_tup (pv 0) pe_int (fun _ _ => rfl)) (pa_cons (pe_op op_fdiv (pv 1) pe_int) pa_nil))))
    (pss_cons (ps_set (i := 3) nd rfl (Or.inl rfl) (pf_call FR hr rfl (pass1 (E := E)) (pa_cons (pe_ix ix_tup (pv 0) pe_int (fun _ _ => rfl)) (pa_cons (pe_op op_fdiv (pv 1) pe_int) pa_nil))))
    (pss_mid (ps_if (PW.pt (pw_or (PW.pt (pw_and (pt_cmpR op_eq (pe_ix ix_tup (pv 0) pe_int (fun _ _ => rfl)) pe_str (nomark _)) (pw_and1 (pt_cmpR op_in_seq (pe_ix ix_tup (pe_ix ix_tup (pv 0) pe_int (fun _ _ => rfl)) pe_int (fun _ _ => rfl)) (pe_lst (pa_cons pe_str (pa_cons pe_str pa_nil))) (by with_unfolding_all rfl))))) (pw_or1 (pt_cmpR op_eq (pe_op op_mod (pv 1) pe_int) pe_int (nomark _))))) (pss_one (ps_set (i := 2) nd rfl (Or.inl rfl) (pe_op op_add_str (pe_op op_add_str pe_str (pv 2)) pe_str))) pss_nil)
    (pss_mid (ps_if (PW.pt (pw_or (pt_cmpR op_in_seq (pe_ix ix_tup (pe_ix ix_tup (pv 0) pe_int (fun _ _ => rfl)) pe_int (fun _ _ => rfl)) (pe_lst (pa_cons pe_str (pa_cons pe_str pa_nil))) (by with_unfolding_all rfl)) (pw_or (PW.pt (pw_and (pt_cmpR op_eq (pe_ix ix_tup (pv 0) pe_int (fun _ _ => rfl)) pe_str (nomark _)) (pw_and1 (pt_cmpR op_eq (pe_ix ix_tup (pe_ix ix_tup (pv 0) pe_int (fun _ _ => rfl)) pe_int (fun _ _ => rfl)) pe_str (nomark _))))) (pw_or1 (pt_cmpR op_eq (pe_op op_mod (pv 1) pe_int) pe_int (nomark _)))))) (pss_one (ps_set (i := 3) nd rfl (Or.inl rfl) (pe_op op_add_str (pe_op op_add_str pe_str (pv 3)) pe_str))) pss_nil)
    (pss_one (ps_ret (pe_op op_add_str (pe_op op_add_str (pv 2) (pe_ix ix_tup (pv 0) pe_int (fun _ _ => rfl))) (pv 3))))))))), ?_⟩
  cases e with
  | num n =>
    obtain ⟨t, xs, rfl, sq, rs⟩ := L2.Rp.tupO (show Rp K H v (.tuple [.str "number", .int n]) from re)
    obtain ⟨x1, xs1, rfl, r1, rs⟩ := rs.consO
    obtain ⟨x2, xs2, rfl, r2, rs⟩ := rs.consO
    rw [rs.nilO, r1.strO, r2.intO] at sq
    refine ⟨_, rfl, t, _, 0, _, rfl, rfl, sq, rfl, le2, fun p hp => ⟨p, _, rfl, .inl (SqL.of upd_same), rfl, rfl, _, rfl, ?_⟩⟩
    rw [ifF, in2]
    refine iteT ⟨_, rfl, t, _, 1, _, rfl, rfl, (same_upd hp _).sqT sq, rfl, .inl ⟨n, rfl, log_small (by have := de.1; have := de.2; omega), q _ _ rfl (same_upd hp _)⟩⟩
  | nam x =>
    obtain ⟨t, xs, rfl, sq, rs⟩ := L2.Rp.tupO (show Rp K H v (.tuple [.str "name", .str x]) from re)
    obtain ⟨x1, xs1, rfl, r1, rs⟩ := rs.consO
    obtain ⟨x2, xs2, rfl, r2, rs⟩ := rs.consO
    rw [rs.nilO, r1.strO, r2.strO] at sq
    refine ⟨_, rfl, t, _, 0, _, rfl, rfl, sq, rfl, le2, fun p hp => ⟨p, _, rfl, .inl (SqL.of upd_same), rfl, rfl, _, rfl, ?_⟩⟩
    rw [ifF, in2]
    refine iteT ⟨_, rfl, t, _, 1, _, rfl, rfl, (same_upd hp _).sqT sq, rfl, .inr ⟨x, rfl, q _ _ rfl (same_upd hp _)⟩⟩
  | bin s a b =>
    obtain ⟨t, va, vb, rfl, sq, ra, rb⟩ := tree_bin re
    obtain ⟨os, da, db⟩ := de
    obtain ⟨c1, c2, c3⟩ := cd_is os
    have hh : max a.ht b.ht + 1 ≤ h := he
    have hnd : a.nd + b.nd + 1 ≤ 60 := hn
    obtain ⟨h', rfl⟩ : ∃ h', h = h' + 1 := ⟨h - 1, by omega⟩
    obtain ⟨ta, xa, ea, sqa⟩ := tree_kd a ra
    obtain ⟨tb, xb, eb, sqb⟩ := tree_kd b rb
    refine ⟨_, rfl, t, _, 0, _, rfl, rfl, sq, rfl, le2, fun p hp => ⟨p, _, rfl, .inl (SqL.of upd_same), rfl, rfl, _, rfl, ?_⟩⟩
    rw [ifF, in2, op_not os]
    have s1 := same_upd hp (.lst [V.str "number", .str "name"])
    generalize upd H p (.lst [V.str "number", .str "name"]) = H1 at s1 ⊢
    refine iteF ⟨_, rfl, t, _, 1, _, rfl, rfl, s1.sqT sq, rfl, _, rfl, _, _, rfl, rfl, ⟨by decide, by decide⟩, h', rfl, va, a, m / 2, rfl, ra.same s1, da, by omega, by omega, fun z1 H2 e1 s2 => ?_⟩
    replace s2 := s1.trans s2
    clear s1
    refine ⟨_, rfl, t, _, 2, _, rfl, rfl, s2.sqT sq, rfl, _, rfl, _, _, rfl, rfl, ⟨by decide, by decide⟩, h', rfl, vb, b, m / 3, rfl, rb.same s2, db, by omega, by omega, fun z2 H3 e2 s3 => ?_⟩
    replace s3 := s2.trans s3
    clear s2
    have l1 : z1.length ≤ 12 * a.nd := by rw [← len_cl, e1]; exact (wf_ok a (m / 2) da).2.2
    have l2 : z2.length ≤ 12 * b.nd := by rw [← len_cl, e2]; exact (wf_ok b (m / 3) db).2.2
    have lin : ∀ n : Nat, n ≤ 1500 → n ≤ sizeLine := fun n h => Nat.le_of_lt (line3 h (by decide))
    have p1 : (Str.ofString "(").length = 1 := by decide +kernel
    have p2 : (Str.ofString ")").length = 1 := by decide +kernel
    refine ⟨fun σ H4 => ∃ y1 : Str, σ = [some (.ref t), some (.int m), some (.str y1), some (.str z2)] ∧ cl y1 = (bI (lB s a m) (wf a (m / 2))).tx ∧ Same H H4 ∧ y1.length ≤ 12 * a.nd + 2, ?_, ?_⟩
    · have yes : lB s a m = true → cl (Str.ofString "(" ++ z1 ++ Str.ofString ")") = (bI (lB s a m) (wf a (m / 2))).tx := fun h => by
        rw [h, c_par, e1]
        rfl
      have no : lB s a m = false → cl z1 = (bI (lB s a m) (wf a (m / 2))).tx := fun h => by
        rw [h, e1]
        rfl
      refine ⟨_, rfl, t, _, 0, _, rfl, rfl, s3.sqT sq, rfl, rfl, _, rfl, ?_⟩
      rw [decS]
      by_cases cs : s = "*"
      · rw [decide_eq_true cs]
        subst ea
        refine iteT ⟨_, rfl, t, _, 1, _, rfl, rfl, s3.sqT sq, rfl, ta, _, 0, .str (kd a), rfl, rfl, s3.sqT sqa, at0, le2, fun p2 hp2 => ⟨p2, _, rfl, .inl (SqL.of upd_same), rfl, rfl, _, rfl, ?_⟩⟩
        have s4 := s3.trans (same_upd hp2 (.lst [V.str "+", .str "-"]))
        rw [ifF, in2, show (decide (kd a = "+") || decide (kd a = "-")) = sumK a from rfl]
        cases hsa : sumK a with
        | true =>
          have hl : lB s a m = true := by
            unfold lB
            rw [decide_eq_true cs, hsa]
            rfl
          exact iteT (iteT ⟨_, rfl, _, _, rfl, rfl, lin _ (by omega), _, _, rfl, rfl, lin _ (by rw [PySem.Str.length_append]; omega), _, rfl, yes (hl), s4, by rw [PySem.Str.length_append, PySem.Str.length_append]; omega⟩)
        | false =>
          have hl : lB s a m = decide (m % 5 = 1) := by
            unfold lB
            rw [hsa, Bool.and_false, Bool.false_or]
          refine iteF ?_
          refine ⟨_, rfl, _, _, rfl, rfl, (by show (0 : Int) < 5; decide), rfl, _, rfl, ?_⟩
          rw [decI]
          by_cases c5 : m % 5 = 1
          · rw [decide_eq_true c5]
            exact iteT ⟨_, rfl, _, _, rfl, rfl, lin _ (by omega), _, _, rfl, rfl, lin _ (by rw [PySem.Str.length_append]; omega), _, rfl, yes (by rw [hl, decide_eq_true c5]), s4, by rw [PySem.Str.length_append, PySem.Str.length_append]; omega⟩
          · rw [decide_eq_false c5]
            exact iteF ⟨z1, rfl, no (by rw [hl, decide_eq_false c5]), s4, by omega⟩
      · rw [decide_eq_false cs]
        have hl : lB s a m = decide (m % 5 = 1) := by
          unfold lB
          rw [decide_eq_false cs, Bool.false_and, Bool.false_or]
        refine iteF (iteF ?_)
        refine ⟨_, rfl, _, _, rfl, rfl, (by show (0 : Int) < 5; decide), rfl, _, rfl, ?_⟩
        rw [decI]
        by_cases c5 : m % 5 = 1
        · rw [decide_eq_true c5]
          exact iteT ⟨_, rfl, _, _, rfl, rfl, lin _ (by omega), _, _, rfl, rfl, lin _ (by rw [PySem.Str.length_append]; omega), _, rfl, yes (by rw [hl, decide_eq_true c5]), s3, by rw [PySem.Str.length_append, PySem.Str.length_append]; omega⟩
        · rw [decide_eq_false c5]
          exact iteF ⟨z1, rfl, no (by rw [hl, decide_eq_false c5]), s3, by omega⟩
    rintro σ H4 ⟨y1, rfl, e1', s4, ly1⟩
    refine ⟨fun σ H5 => ∃ y2 : Str, σ = [some (.ref t), some (.int m), some (.str y1), some (.str y2)] ∧ cl y2 = (bI (rB s b m) (wf b (m / 3))).tx ∧ Same H H5 ∧ y2.length ≤ 12 * b.nd + 2, ?_, ?_⟩
    · have yes : rB s b m = true → cl (Str.ofString "(" ++ z2 ++ Str.ofString ")") = (bI (rB s b m) (wf b (m / 3))).tx := fun h => by
        rw [h, c_par, e2]
        rfl
      have no : rB s b m = false → cl z2 = (bI (rB s b m) (wf b (m / 3))).tx := fun h => by
        rw [h, e2]
        rfl
      subst eb
      refine ⟨_, rfl, t, _, 2, _, rfl, rfl, s4.sqT sq, rfl, tb, _, 0, .str (kd b), rfl, rfl, s4.sqT sqb, at0, le2, fun p2 hp2 => ⟨p2, _, rfl, .inl (SqL.of upd_same), rfl, rfl, _, rfl, ?_⟩⟩
      have s5 := s4.trans (same_upd hp2 (.lst [V.str "+", .str "-"]))
      rw [ifF, in2, show (decide (kd b = "+") || decide (kd b = "-")) = sumK b from rfl]
      cases hsb : sumK b with
      | true =>
        have hl : rB s b m = true := by
          unfold rB
          rw [hsb]
          rfl
        exact iteT (iteT ⟨_, rfl, _, _, rfl, rfl, lin _ (by omega), _, _, rfl, rfl, lin _ (by rw [PySem.Str.length_append]; omega), _, rfl, yes (hl), s5, by rw [PySem.Str.length_append, PySem.Str.length_append]; omega⟩)
      | false =>
        refine iteF ⟨_, rfl, t, _, 0, _, rfl, rfl, s5.sqT sq, rfl, rfl, _, rfl, ?_⟩
        rw [decS]
        by_cases cs : s = "*"
        · rw [decide_eq_true cs]
          refine iteT ⟨_, rfl, t, _, 2, _, rfl, rfl, s5.sqT sq, rfl, tb, _, 0, .str (kd b), rfl, rfl, s5.sqT sqb, at0, rfl, _, rfl, ?_⟩
          rw [decS]
          by_cases ck : kd b = "*"
          · rw [decide_eq_true ck]
            have hl : rB s b m = true := by
              unfold rB
              rw [decide_eq_true cs, decide_eq_true ck, hsb]
              rfl
            exact iteT (iteT ⟨_, rfl, _, _, rfl, rfl, lin _ (by omega), _, _, rfl, rfl, lin _ (by rw [PySem.Str.length_append]; omega), _, rfl, yes (hl), s5, by rw [PySem.Str.length_append, PySem.Str.length_append]; omega⟩)
          · rw [decide_eq_false ck]
            have hl : rB s b m = decide (m % 7 = 1) := by
              unfold rB
              rw [decide_eq_false ck, hsb, Bool.and_false, Bool.false_or, Bool.false_or]
            refine iteF ?_
            refine ⟨_, rfl, _, _, rfl, rfl, (by show (0 : Int) < 7; decide), rfl, _, rfl, ?_⟩
            rw [decI]
            by_cases c5 : m % 7 = 1
            · rw [decide_eq_true c5]
              exact iteT ⟨_, rfl, _, _, rfl, rfl, lin _ (by omega), _, _, rfl, rfl, lin _ (by rw [PySem.Str.length_append]; omega), _, rfl, yes (by rw [hl, decide_eq_true c5]), s5, by rw [PySem.Str.length_append, PySem.Str.length_append]; omega⟩
            · rw [decide_eq_false c5]
              exact iteF ⟨z2, rfl, no (by rw [hl, decide_eq_false c5]), s5, by omega⟩
        · rw [decide_eq_false cs]
          have hl : rB s b m = decide (m % 7 = 1) := by
            unfold rB
            rw [decide_eq_false cs, hsb, Bool.false_and, Bool.false_or, Bool.false_or]
          refine iteF (iteF ?_)
          refine ⟨_, rfl, _, _, rfl, rfl, (by show (0 : Int) < 7; decide), rfl, _, rfl, ?_⟩
          rw [decI]
          by_cases c5 : m % 7 = 1
          · rw [decide_eq_true c5]
            exact iteT ⟨_, rfl, _, _, rfl, rfl, lin _ (by omega), _, _, rfl, rfl, lin _ (by rw [PySem.Str.length_append]; omega), _, rfl, yes (by rw [hl, decide_eq_true c5]), s5, by rw [PySem.Str.length_append, PySem.Str.length_append]; omega⟩
          · rw [decide_eq_false c5]
            exact iteF ⟨z2, rfl, no (by rw [hl, decide_eq_false c5]), s5, by omega⟩
    rintro σ H5 ⟨y2, rfl, e2', s5, ly2⟩
    have ls : s.length = 1 := by rcases os with rfl | rfl | rfl <;> decide +kernel
    refine ⟨_, rfl, _, rfl, t, _, 0, _, rfl, rfl, s5.sqT sq, rfl, y1, s, rfl, rfl, lin _ (by omega), _, rfl, y1 ++ s, y2, rfl, rfl, lin _ (by rw [PySem.Str.length_append]; omega), q _ _ ?_ s5⟩
    rw [cl_app, cl_app, e1', e2', show cl s = [cd s] by rw [← congrArg cl c1], List.append_assoc]
    rfl
theorem ok_worded (hst : mg "str" = none) (hm : mg "_law_worded" = some (.ref f)) (kp : PySem.W.keepIn K (.ref f) = true) (bi : Binds K fd' ["tree", "more"] []) (F : Fun K "_law_worded" "_law_worded" sWorded f fd') : ∀ h, Fn P w K mg base "_law_worded" (h + 1) ["tree", "more"] (spWorded K h)
  | 0 => ⟨f, fd', ok_worded1 hst ⟨f, fd', ⟨fun vs H Q E ⟨m, hm, _⟩ => absurd hm (by omega), fun _ _ _ _ _ _ _ _ _ _ _ _ _ ⟨m, hm, _⟩ => absurd hm (by omega)⟩, hm, kp, bi⟩ F, hm, kp, bi⟩
  | m + 1 => by
    obtain ⟨f0, fd0, ok0, hm0, kp0, bi0⟩ := (ok_worded hst hm kp bi F m).ex
    exact ⟨f, fd', ok_worded1 hst ⟨f0, fd0, ok0.imp fun vs H Q E ⟨m1, e, h⟩ => (by have z : m1 = m := (by omega); subst z; exact h), hm0, kp0, bi0⟩ F, hm, kp, bi⟩
end
end Car

set_option maxHeartbeats 1000000
namespace Car
open PySem L2
/-! ### words that are read, sign by sign -/
inductive Acc : Nat → Bool → List Nat → Prop
  | fin : Acc 0 false []
  | opn {d : Nat} {r : List Nat} : d < 5 → Acc (d + 1) true r → Acc d true (40 :: r)
  | leaf {d : Nat} {p r : List Nat} {e : Ex} : leafA p = some e → Joint r → Acc d false r → Acc d true (p ++ r)
  | cls {d : Nat} {r : List Nat} : Acc d false r → Acc (d + 1) false (41 :: r)
  | sgn {d : Nat} {c : Nat} {r : List Nat} : c = 42 ∨ c = 43 ∨ c = 45 → Acc d true r → Acc d false (c :: r)
theorem acc_nil {d : Nat} : Acc d false [] ↔ d = 0 := by
  constructor
  · intro h
    cases h
    rfl
  · rintro rfl
    exact .fin
theorem acc_opn {d : Nat} {r : List Nat} : Acc d true (40 :: r) ↔ d < 5 ∧ Acc (d + 1) true r := by
  constructor
  · intro h
    generalize hl : (40 :: r) = l at h
    cases h with
    | opn h1 h2 => cases hl; exact ⟨h1, h2⟩
    | leaf h1 h2 h3 =>
      obtain ⟨c, t, rfl, hc⟩ := leaf_ne h1
      cases hl
      rw [noJ40] at hc
      cases hc
  · exact fun h => .opn h.1 h.2
theorem acc_leaf {d : Nat} {l : List Nat} (hh : l.head? ≠ some 40) : Acc d true l ↔ (∃ e, leafA (l.takeWhile noJ) = some e) ∧ Acc d false (l.dropWhile noJ) := by
  constructor
  · intro h
    generalize hb : true = b at h
    cases h with
    | opn h1 h2 => exact absurd rfl hh
    | leaf h1 h2 h3 =>
      obtain ⟨t1, t2⟩ := tw_app (p := noJ) (leaf_noJ h1) h2
      rw [t1, t2]
      exact ⟨⟨_, h1⟩, h3⟩
    | fin => cases hb
    | cls _ => cases hb
    | sgn _ _ => cases hb
  · rintro ⟨⟨e, h1⟩, h2⟩
    have := Acc.leaf (d := d) h1 (r := l.dropWhile noJ) (fun c hc => head_dw l c hc) h2
    rwa [List.takeWhile_append_dropWhile] at this
theorem acc_cls {d : Nat} {r : List Nat} : Acc d false (41 :: r) ↔ ∃ d', d = d' + 1 ∧ Acc d' false r := by
  constructor
  · intro h
    cases h with
    | cls h => exact ⟨_, rfl, h⟩
    | sgn h _ => omega
  · rintro ⟨d', rfl, h⟩
    exact .cls h
theorem acc_sgn {d c : Nat} {r : List Nat} (hc : c = 42 ∨ c = 43 ∨ c = 45) : Acc d false (c :: r) ↔ Acc d true r := by
  constructor
  · intro h
    cases h with
    | cls h => omega
    | sgn _ h => exact h
  · exact .sgn hc
theorem acc_no {d c : Nat} {r : List Nat} (h1 : c ≠ 41) (h2 : ¬ (c = 42 ∨ c = 43 ∨ c = 45)) : ¬ Acc d false (c :: r) := fun h => by
  cases h with
  | cls h => exact h1 rfl
  | sgn h _ => exact h2 h
/-! ### what the readers do with them -/
noncomputable def RdA (z : Str) (p : Nat → Rd1) (d : Nat) : Prop := ∀ a, a ≤ z.length → match p a with
  | some (_, a1) => a1 ≤ z.length ∧ (Acc d true ((cl z).drop a) ↔ Acc d false ((cl z).drop a1))
  | none => ¬ Acc d true ((cl z).drop a)
noncomputable def EndS (z : Str) (p : Nat → Rd1) (S : Str → Bool) : Prop := ∀ a e a1, p a = some (e, a1) → S (sg z a1) = false
theorem drop_at {z : Str} {a : Nat} (h : a < z.length) : ∃ c, (cl z).drop a = c :: (cl z).drop (a + 1) ∧ sg z a = st1 c := by
  have hl : a < (cl z).length := by rw [len_cl]; exact h
  refine ⟨(cl z)[a], List.drop_eq_getElem_cons hl, ?_⟩
  have : (cl z)[a]? = some (cl z)[a] := List.getElem?_eq_getElem hl
  exact sg_some (by simpa using this)
/-- a sign of S that stands at a: a sign of sums -/
noncomputable def Sgns (S : Str → Bool) : Prop := S Str.empty = false ∧ ∀ c, S (st1 c) = true → c = 42 ∨ c = 43 ∨ c = 45
theorem sgns_star : Sgns isStar := ⟨star_emp, fun c h => .inl ((st1_is c_star).mp (of_decide_eq_true h))⟩
theorem sgns_sum : Sgns isSum := ⟨sum_emp, fun c h => by
  unfold isSum at h
  rw [Bool.or_eq_true] at h
  rcases h with h | h
  · exact .inr (.inl ((st1_is c_plus).mp (of_decide_eq_true h)))
  · exact .inr (.inr ((st1_is c_minus).mp (of_decide_eq_true h)))⟩
theorem sg_in {z : Str} {S : Str → Bool} (hS : Sgns S) {a : Nat} (h : S (sg z a) = true) : a < z.length ∧ ∀ d, Acc d false ((cl z).drop a) ↔ Acc d true ((cl z).drop (a + 1)) := by
  by_cases hl : a < z.length
  · refine ⟨hl, fun d => ?_⟩
    obtain ⟨c, hc, hs⟩ := drop_at hl
    rw [hs] at h
    rw [hc]
    exact acc_sgn (hS.2 c h)
  · rw [sg_none (show z.cps.size ≤ a by show z.length ≤ a; omega), hS.1] at h
    cases h
/-- the loop -/
theorem lp_acc {z : Str} {p : Nat → Rd1} {S : Str → Bool} {d : Nat} (hS : Sgns S) (hf : Fwd p) (hp : RdA z p d) : ∀ n e a, z.length < n + a → a ≤ z.length → match lp z p S n e a with
    | some (_, a1) => a1 ≤ z.length ∧ (Acc d false ((cl z).drop a) ↔ Acc d false ((cl z).drop a1)) ∧ S (sg z a1) = false
    | none => ¬ Acc d false ((cl z).drop a) := by
  intro n
  induction n with
  | zero => intro e a h1 h2; omega
  | succ n ih =>
    intro e a h1 h2
    unfold lp
    cases hs : S (sg z a) with
    | false =>
      rw [if_neg (by decide)]
      exact ⟨h2, Iff.rfl, hs⟩
    | true =>
      rw [if_pos rfl]
      obtain ⟨hl, hacc⟩ := sg_in hS hs
      have h3 := hp (a + 1) (by omega)
      cases hq : p (a + 1) with
      | none =>
        rw [hq] at h3
        exact fun h => h3 ((hacc d).mp h)
      | some r =>
        obtain ⟨g, a1⟩ := r
        rw [hq] at h3
        obtain ⟨h4, h5⟩ := h3
        have h6 := hf _ _ _ hq
        have h7 := ih (.bin (sg z a) e g) a1 (by omega) h4
        show match lp z p S n (.bin (sg z a) e g) a1 with | some (_, a1) => _ | none => _
        cases hr : lp z p S n (.bin (sg z a) e g) a1 with
        | none =>
          rw [hr] at h7
          exact fun h => h7 (h5.mp ((hacc d).mp h))
        | some r2 =>
          obtain ⟨e2, a2⟩ := r2
          rw [hr] at h7
          exact ⟨h7.1, (hacc d).trans (h5.trans h7.2.1), h7.2.2⟩
theorem row_acc {z : Str} {p : Nat → Rd1} {S : Str → Bool} {d : Nat} (hS : Sgns S) (hf : Fwd p) (hp : RdA z p d) : RdA z (row z p S) d ∧ EndS z (row z p S) S := by
  have key : ∀ a, a ≤ z.length → match row z p S a with
      | some (_, a1) => (a1 ≤ z.length ∧ (Acc d true ((cl z).drop a) ↔ Acc d false ((cl z).drop a1))) ∧ S (sg z a1) = false
      | none => ¬ Acc d true ((cl z).drop a) := fun a ha => by
    have h1 := hp a ha
    unfold row
    cases hq : p a with
    | none =>
      rw [hq] at h1
      exact h1
    | some r =>
      obtain ⟨e, a1⟩ := r
      rw [hq] at h1
      have h2 := lp_acc hS hf hp (z.length + 1) e a1 (by omega) h1.1
      show match lp z p S (z.length + 1) e a1 with | some (_, a1) => _ | none => _
      cases hr : lp z p S (z.length + 1) e a1 with
      | none =>
        rw [hr] at h2
        exact fun h => h2 (h1.2.mp h)
      | some r2 =>
        obtain ⟨e2, a2⟩ := r2
        rw [hr] at h2
        exact ⟨⟨h2.1, h1.2.trans h2.2.1⟩, h2.2.2⟩
  refine ⟨fun a ha => ?_, fun a e a1 h => ?_⟩
  · have := key a ha
    cases hq : row z p S a with
    | none => rw [hq] at this; exact this
    | some r => obtain ⟨e, a1⟩ := r; rw [hq] at this; exact this.1
  · by_cases ha : a ≤ z.length
    · have := key a ha
      rw [h] at this
      exact this.2
    · unfold row at h
      cases hq : p a with
      | none => rw [hq] at h; cases h
      | some r =>
        obtain ⟨e1, a2⟩ := r
        have h2 := hf _ _ _ hq
        rw [hq] at h
        have h3 := fwd_lp hf _ _ _ _ _ h
        rw [sg_none (show z.cps.size ≤ a1 by show z.length ≤ a1; omega)]
        exact hS.1
/-- a row of rows ends as its rows do -/
theorem row_end {z : Str} {p : Nat → Rd1} {S S' : Str → Bool} (hp : EndS z p S') : EndS z (row z p S) S' := by
  have h : ∀ n e a e1 a1, S' (sg z a) = false → lp z p S n e a = some (e1, a1) → S' (sg z a1) = false := by
    intro n
    induction n with
    | zero => intro e a e1 a1 h1 h2; cases h2; exact h1
    | succ n ih =>
      intro e a e1 a1 h1 h2
      unfold lp at h2
      split at h2
      · cases hq : p (a + 1) with
        | none => rw [hq] at h2; cases h2
        | some r =>
          obtain ⟨g, b⟩ := r
          rw [hq] at h2
          exact ih _ _ _ _ (hp _ _ _ hq) h2
      · cases h2
        exact h1
  intro a e a1 q
  unfold row at q
  cases hq : p a with
  | none => rw [hq] at q; cases q
  | some r =>
    obtain ⟨g, b⟩ := r
    rw [hq] at q
    exact h _ _ _ _ _ (hp _ _ _ hq) q
/-- behind a whole row of terms: a closing bracket, or nothing more is read -/
theorem behind {z : Str} {a : Nat} (h1 : isStar (sg z a) = false) (h2 : isSum (sg z a) = false) (d : Nat) : Acc d false ((cl z).drop a) ↔ (z.length ≤ a ∧ d = 0) ∨ (sg z a = ")" ∧ ∃ d', d = d' + 1 ∧ Acc d' false ((cl z).drop (a + 1))) := by
  by_cases hl : a < z.length
  · obtain ⟨c, hc, hs⟩ := drop_at hl
    rw [hc, hs]
    rw [hs] at h1 h2
    by_cases h41 : c = 41
    · subst h41
      rw [acc_cls]
      constructor
      · exact fun h => .inr ⟨(st1_is c_close).mpr rfl, h⟩
      · rintro (h | h)
        · omega
        · exact h.2
    · constructor
      · intro h
        refine absurd h (acc_no h41 ?_)
        rintro (rfl | rfl | rfl)
        · rw [star42] at h1; cases h1
        · rw [sum_yes (.inl rfl)] at h2; cases h2
        · rw [sum_yes (.inr rfl)] at h2; cases h2
      · rintro (h | h)
        · omega
        · exact absurd ((st1_is c_close).mp h.1) h41
  · rw [List.drop_of_length_le (by rw [len_cl]; omega), acc_nil]
    constructor
    · exact fun h => .inl ⟨by omega, h⟩
    · rintro (h | h)
      · exact h.2
      · rw [sg_none (show z.cps.size ≤ a by show z.length ≤ a; omega)] at h
        exact absurd h.1 (empty_ne c_close)
theorem fac_acc {z : Str} {r d : Nat} (hd : d + r = 5) (hi : ∀ r', r = r' + 1 → RdA z (parse z r') (d + 1) ∧ EndS z (parse z r') isStar ∧ EndS z (parse z r') isSum) : RdA z (rdF z r) d := by
  intro a ha
  show match fac z (inn z r) a with | some (_, a1) => _ | none => _
  unfold fac
  by_cases h : sg z a = "("
  · rw [if_pos h]
    have hh := (sg_is c_open).mp h
    have hl : a < z.length := by
      by_cases q : a < z.length
      · exact q
      · rw [List.drop_of_length_le (by rw [len_cl]; omega)] at hh
        cases hh
    obtain ⟨c, hc, hs⟩ := drop_at hl
    have e40 : c = 40 := (st1_is c_open).mp (hs.symm.trans h)
    subst e40
    rw [hc]
    unfold brk
    cases r with
    | zero =>
      show ¬ Acc d true (40 :: (cl z).drop (a + 1))
      rw [acc_opn]
      omega
    | succ r' =>
      obtain ⟨i1, i2, i3⟩ := hi r' rfl
      have h3 := i1 (a + 1) hl
      show match (match parse z r' (a + 1) with | none => none | some (e, a1) => if sg z a1 = ")" then some (e, a1 + 1) else none : Rd1) with | some (_, a1) => _ | none => _
      cases hq : parse z r' (a + 1) with
      | none =>
        rw [hq] at h3
        show ¬ Acc d true (40 :: (cl z).drop (a + 1))
        rw [acc_opn]
        exact fun q => h3 q.2
      | some q =>
        obtain ⟨e, a1⟩ := q
        rw [hq] at h3
        have hb := behind (i2 _ _ _ hq) (i3 _ _ _ hq) (d + 1)
        show match (if sg z a1 = ")" then some (e, a1 + 1) else none : Rd1) with | some (_, a1) => _ | none => _
        by_cases h4 : sg z a1 = ")"
        · rw [if_pos h4]
          have hl1 : a1 < z.length := by
            by_cases q : a1 < z.length
            · exact q
            · rw [sg_none (show z.cps.size ≤ a1 by show z.length ≤ a1; omega)] at h4
              exact absurd h4 (empty_ne c_close)
          refine ⟨hl1, ?_⟩
          rw [acc_opn, h3.2, hb]
          constructor
          · rintro ⟨_, h5 | ⟨_, d', h6, h7⟩⟩
            · omega
            · have : d' = d := by omega
              rw [← this]
              exact h7
          · exact fun h5 => ⟨by omega, .inr ⟨h4, d, rfl, h5⟩⟩
        · rw [if_neg h4]
          show ¬ Acc d true (40 :: (cl z).drop (a + 1))
          rw [acc_opn, h3.2, hb]
          rintro ⟨_, h5 | ⟨h6, _⟩⟩
          · omega
          · exact h4 h6
  · rw [if_neg h, leaf_is ha]
    have hh : ((cl z).drop a).head? ≠ some 40 := fun q => h ((sg_is c_open).mpr q)
    have al := acc_leaf (d := d) hh
    unfold leafL onto
    cases hf : leafA (((cl z).drop a).takeWhile noJ) with
    | none =>
      show ¬ Acc d true ((cl z).drop a)
      rw [al, hf]
      rintro ⟨⟨e, q⟩, _⟩
      cases q
    | some e =>
      have hl := tw_len ((cl z).drop a)
      rw [List.length_drop, len_cl] at hl
      show z.length - (((cl z).drop a).dropWhile noJ).length ≤ z.length ∧ (Acc d true ((cl z).drop a) ↔ Acc d false ((cl z).drop (z.length - (((cl z).drop a).dropWhile noJ).length)))
      refine ⟨Nat.sub_le _ _, ?_⟩
      have hd2 : (cl z).drop (z.length - (((cl z).drop a).dropWhile noJ).length) = ((cl z).drop a).dropWhile noJ := by
        have h5 : z.length - (((cl z).drop a).dropWhile noJ).length = a + (((cl z).drop a).takeWhile noJ).length := by omega
        rw [h5, ← List.drop_drop]
        conv => lhs; arg 2; rw [← List.takeWhile_append_dropWhile (p := noJ) (l := (cl z).drop a)]
        rw [List.drop_left]
      rw [hd2, al, hf]
      exact ⟨fun q => q.2, fun q => ⟨⟨e, rfl⟩, q⟩⟩
theorem parse_acc (z : Str) : ∀ r d, d + r = 5 → RdA z (parse z r) d ∧ EndS z (parse z r) isStar ∧ EndS z (parse z r) isSum := by
  have step : ∀ r d, d + r = 5 → (∀ r', r = r' + 1 → RdA z (parse z r') (d + 1) ∧ EndS z (parse z r') isStar ∧ EndS z (parse z r') isSum) → RdA z (parse z r) d ∧ EndS z (parse z r) isStar ∧ EndS z (parse z r) isSum := fun r d hd hi => by
    obtain ⟨s1, s2⟩ := row_acc (z := z) sgns_star (fwdF z r) (fac_acc hd hi)
    obtain ⟨t1, t2⟩ := row_acc (z := z) sgns_sum (fwdS z r) s1
    rw [parse_inn]
    exact ⟨t1, row_end s2, t2⟩
  intro r
  induction r with
  | zero => exact fun d hd => step 0 d hd fun r' h => by omega
  | succ r ih =>
    intro d hd
    refine step (r + 1) d hd fun r' h => ?_
    have : r' = r := by omega
    subst this
    exact ih (d + 1) (by omega)
/-- a word is read, if and only if it is accepted -/
theorem expr_acc (z : Str) : (exprD z).isSome = true ↔ z.length ≤ 60 ∧ Acc 0 true (cl z) := by
  unfold exprD
  by_cases h6 : 60 < z.length
  · rw [if_pos h6]
    exact ⟨fun h => (by cases h), fun h => by omega⟩
  · rw [if_neg h6]
    obtain ⟨p1, p2, p3⟩ := parse_acc z 5 0 rfl
    have h := p1 0 (Nat.zero_le _)
    rw [List.drop_zero] at h
    show (match parse z 5 0 with | none => none | some (e, a) => if a < z.length then none else some e : Option Ex).isSome = true ↔ _
    cases hq : parse z 5 0 with
    | none =>
      rw [hq] at h
      exact ⟨fun q => (by cases q), fun q => absurd q.2 h⟩
    | some r =>
      obtain ⟨e, a⟩ := r
      rw [hq] at h
      have hb := behind (p2 _ _ _ hq) (p3 _ _ _ hq) 0
      rw [h.2, hb]
      show (if a < z.length then none else some e : Option Ex).isSome = true ↔ _
      by_cases hl : a < z.length
      · rw [if_pos hl]
        refine ⟨fun q => (by cases q), fun q => ?_⟩
        rcases q.2 with q | ⟨_, d', q, _⟩
        · omega
        · omega
      · rw [if_neg hl]
        exact ⟨fun _ => ⟨by omega, .inl ⟨by omega, rfl⟩⟩, fun _ => rfl⟩
end Car

set_option maxHeartbeats 1000000
namespace Car
open PySem L2
/-! ### the law's parts: 0 letters, 1 figures, 2 others -/
noncomputable abbrev Tk := Nat × List Nat
noncomputable def kc (c : Nat) : Nat := if c ∈ cl figT then 1 else if c ∈ cl smallT then 0 else 2
noncomputable def gl (t : Tk) : List Tk → List Tk
  | [] => [t]
  | u :: ts => if t.1 = u.1 ∧ t.1 ≠ 2 then (t.1, t.2 ++ u.2) :: ts else t :: u :: ts
noncomputable def tk : List Nat → List Tk
  | [] => []
  | c :: r => gl (kc c, [c]) (tk r)
/-- the law's own way: onto the last one -/
noncomputable def pstep (ts : List Tk) (c : Nat) : List Tk := match ts.getLast? with
  | none => [(kc c, [c])]
  | some u => if kc c ≠ 2 ∧ u.1 = kc c then ts.dropLast ++ [(kc c, u.2 ++ [c])] else ts ++ [(kc c, [c])]
theorem gl_gl (k : Nat) (p : List Nat) (c : Nat) (h : k = kc c ∧ k ≠ 2) (ts : List Tk) : gl (k, p) (gl (kc c, [c]) ts) = gl (k, p ++ [c]) ts := by
  obtain ⟨rfl, h2⟩ := h
  cases ts with
  | nil =>
    show (if kc c = kc c ∧ kc c ≠ 2 then [(kc c, p ++ [c])] else _) = _
    rw [if_pos ⟨rfl, h2⟩]
    rfl
  | cons u ts =>
    by_cases hu : kc c = u.1
    · show gl (kc c, p) (if kc c = u.1 ∧ kc c ≠ 2 then (kc c, [c] ++ u.2) :: ts else _) = (if kc c = u.1 ∧ kc c ≠ 2 then (kc c, (p ++ [c]) ++ u.2) :: ts else _)
      rw [if_pos ⟨hu, h2⟩, if_pos ⟨hu, h2⟩]
      show (if kc c = kc c ∧ kc c ≠ 2 then (kc c, p ++ ([c] ++ u.2)) :: ts else _) = _
      rw [if_pos ⟨rfl, h2⟩, List.append_assoc]
    · show gl (kc c, p) (if kc c = u.1 ∧ kc c ≠ 2 then (kc c, [c] ++ u.2) :: ts else (kc c, [c]) :: u :: ts) = (if kc c = u.1 ∧ kc c ≠ 2 then _ else (kc c, p ++ [c]) :: u :: ts)
      rw [if_neg (fun q => hu q.1), if_neg (fun q => hu q.1)]
      show (if kc c = kc c ∧ kc c ≠ 2 then (kc c, p ++ [c]) :: u :: ts else _) = _
      rw [if_pos ⟨rfl, h2⟩]
theorem gl_no (t : Tk) (c : Nat) (h : ¬ (t.1 = kc c ∧ t.1 ≠ 2)) (ts : List Tk) : gl t (gl (kc c, [c]) ts) = t :: gl (kc c, [c]) ts := by
  cases ts with
  | nil => exact if_neg h
  | cons u ts =>
    by_cases hu : kc c = u.1 ∧ kc c ≠ 2
    · show gl t (if kc c = u.1 ∧ kc c ≠ 2 then (kc c, [c] ++ u.2) :: ts else _) = t :: (if kc c = u.1 ∧ kc c ≠ 2 then (kc c, [c] ++ u.2) :: ts else _)
      rw [if_pos hu]
      exact if_neg h
    · show gl t (if kc c = u.1 ∧ kc c ≠ 2 then _ else (kc c, [c]) :: u :: ts) = t :: (if kc c = u.1 ∧ kc c ≠ 2 then _ else (kc c, [c]) :: u :: ts)
      rw [if_neg hu]
      exact if_neg h
theorem pstep_is (ts : List Tk) (t : Tk) (c : Nat) : pstep (ts ++ [t]) c = if kc c ≠ 2 ∧ t.1 = kc c then ts ++ [(kc c, t.2 ++ [c])] else ts ++ [t] ++ [(kc c, [c])] := by
  unfold pstep
  rw [List.getLast?_concat, List.dropLast_concat]
theorem fold_last : ∀ (l : List Nat) (ts : List Tk) (t : Tk), l.foldl pstep (ts ++ [t]) = ts ++ gl t (tk l)
  | [], ts, t => rfl
  | c :: l, ts, t => by
    rw [List.foldl_cons]
    show l.foldl pstep (pstep (ts ++ [t]) c) = ts ++ gl t (gl (kc c, [c]) (tk l))
    rw [pstep_is]
    by_cases h : kc c ≠ 2 ∧ t.1 = kc c
    · rw [if_pos h, fold_last l ts]
      have := gl_gl t.1 t.2 c ⟨h.2, by rw [h.2]; exact h.1⟩ (tk l)
      rw [show t = (t.1, t.2) from rfl, this, h.2]
    · rw [if_neg h, fold_last l (ts ++ [t]), gl_no t c (fun q => h ⟨by rw [← q.1]; exact q.2, q.1⟩), List.append_assoc]
      rfl
theorem fold_tk (l : List Nat) : l.foldl pstep [] = tk l := by
  cases l with
  | nil => rfl
  | cons c l =>
    rw [List.foldl_cons]
    exact fold_last l [] (kc c, [c])
/-- a run of one kind is one part -/
theorem tk_run {k : Nat} (hk : k ≠ 2) : ∀ (q r : List Nat), q ≠ [] → (∀ c ∈ q, kc c = k) → (∀ c, r.head? = some c → kc c ≠ k) → tk (q ++ r) = (k, q) :: tk r
  | [c], r, _, hq, hr => by
    have hc := hq c List.mem_cons_self
    show gl (kc c, [c]) (tk r) = _
    rw [hc]
    cases r with
    | nil => rfl
    | cons d r =>
      have hd := hr d rfl
      show gl (k, [c]) (gl (kc d, [d]) (tk r)) = (k, [c]) :: gl (kc d, [d]) (tk r)
      exact gl_no _ d (fun z => hd z.1.symm) _
  | c :: d :: q, r, _, hq, hr => by
    have hc := hq c List.mem_cons_self
    show gl (kc c, [c]) (tk (d :: q ++ r)) = _
    rw [tk_run hk (d :: q) r (by simp) (fun x hx => hq x (List.mem_cons_of_mem _ hx)) hr, hc]
    show (if k = k ∧ k ≠ 2 then (k, [c] ++ (d :: q)) :: tk r else _) = _
    rw [if_pos ⟨rfl, hk⟩]
    rfl
theorem tk_oth {c : Nat} (h : kc c = 2) (r : List Nat) : tk (c :: r) = (2, [c]) :: tk r := by
  show gl (kc c, [c]) (tk r) = _
  rw [h]
  cases hr : tk r with
  | nil => rfl
  | cons u ts => exact if_neg (fun z => z.2 rfl)
/-- the first part begins with the first sign -/
theorem tk_head (c : Nat) (r : List Nat) : ∃ k p ts, tk (c :: r) = (k, c :: p) :: ts := by
  show ∃ k p ts, gl (kc c, [c]) (tk r) = (k, c :: p) :: ts
  cases tk r with
  | nil => exact ⟨_, [], [], rfl⟩
  | cons u ts =>
    show ∃ k p ts', (if kc c = u.1 ∧ kc c ≠ 2 then (kc c, [c] ++ u.2) :: ts else (kc c, [c]) :: u :: ts) = (k, c :: p) :: ts'
    split
    · exact ⟨_, u.2, ts, rfl⟩
    · exact ⟨_, [], u :: ts, rfl⟩
/-! ### the law's judgement -/
noncomputable def gf (k : Nat) (p : List Nat) : Bool := if k = 0 then decide (p.length ≤ 8) && !inV (.str (stl p)) (keptW.map V.str) else decide (k = 1) && (decide (p.length ≤ 6) && (decide (p = [48]) || decide (p.head? ≠ some 48)))
noncomputable def gA : Nat → Bool → List Tk → Bool
  | d, due, [] => decide (d = 0) && !due
  | d, due, t :: ts => if due = true then (if t.2 = [40] then decide (d < 5) && gA (d + 1) true ts else gf t.1 t.2 && gA d false ts)
    else if t.2 = [41] then decide (0 < d) && gA (d - 1) false ts else if t.2 = [43] ∨ t.2 = [45] ∨ t.2 = [42] then gA d true ts else false
theorem kc_joint {c : Nat} (h : noJ c = false) : kc c = 2 := by
  have h1 : c ∈ cl jointT := by
    unfold noJ at h
    simpa using h
  rw [cl_joint] at h1
  have e1 : ([43, 45, 42, 40, 41] : List Nat).all (fun c => decide (kc c = 2)) = true := by decide +kernel
  exact of_decide_eq_true (List.all_eq_true.mp e1 c h1)
theorem kc0 {c : Nat} : kc c = 0 ↔ c ∈ cl smallT := by
  have dis : (cl smallT).all (fun c => !decide (c ∈ cl figT)) = true := by decide +kernel
  unfold kc
  constructor
  · intro h
    split at h
    · cases h
    · split at h
      · assumption
      · cases h
  · intro h
    have := List.all_eq_true.mp dis c h
    rw [if_neg (by simpa using this), if_pos h]
theorem kc1 {c : Nat} : kc c = 1 ↔ c ∈ cl figT := by
  unfold kc
  constructor
  · intro h
    split at h
    · assumption
    · split at h <;> cases h
  · intro h
    rw [if_pos h]
theorem wrt_kc0 (p : List Nat) : wrt (stl p) smallT = true ↔ ∀ c ∈ p, kc c = 0 := by
  unfold wrt
  rw [List.all_eq_true]
  have e : cl (stl p) = p := by simp
  rw [e]
  exact ⟨fun h c hc => kc0.mpr (of_decide_eq_true (h c hc)), fun h c hc => decide_eq_true (kc0.mp (h c hc))⟩
theorem wrt_kc1 (p : List Nat) : wrt (stl p) figT = true ↔ ∀ c ∈ p, kc c = 1 := by
  unfold wrt
  rw [List.all_eq_true]
  have e : cl (stl p) = p := by simp
  rw [e]
  exact ⟨fun h c hc => kc1.mpr (of_decide_eq_true (h c hc)), fun h c hc => decide_eq_true (kc1.mp (h c hc))⟩
theorem leaf_kc {p : List Nat} {e : Ex} (h : leafA p = some e) : (∀ c ∈ p, kc c = 0) ∨ (∀ c ∈ p, kc c = 1) := by
  unfold leafA at h
  split at h
  · rename_i q
    unfold numS at q
    rw [Bool.and_eq_true, Bool.and_eq_true] at q
    exact .inr ((wrt_kc1 p).mp q.1.2)
  · split at h
    · rename_i q
      unfold nameS at q
      rw [Bool.and_eq_true, Bool.and_eq_true] at q
      exact .inl ((wrt_kc0 p).mp q.2.1)
    · cases h
theorem stl_len (p : List Nat) : (stl p).length = p.length := by simp [Str.length]
theorem stl_eq {p q : List Nat} : stl p = stl q ↔ p = q := by
  constructor
  · intro h
    have : (stl p).cps.toList = (stl q).cps.toList := by rw [h]
    simpa using this
  · rintro rfl
    rfl
theorem zero_is : ("0" : Str) = stl [48] := by decide +kernel
/-- a run of one kind: read as a leaf, if and only if the law finds it good -/
theorem gf_leaf {k : Nat} {q : List Nat} (hk : k ≠ 2) (hq : q ≠ []) (h : ∀ c ∈ q, kc c = k) : gf k q = (leafA q).isSome := by
  obtain ⟨c, r, rfl⟩ : ∃ c r, q = c :: r := by
    cases q with
    | nil => exact absurd rfl hq
    | cons c r => exact ⟨c, r, rfl⟩
  have hc := h c List.mem_cons_self
  have k01 : k = 0 ∨ k = 1 := by
    rw [← hc] at hk ⊢
    unfold kc at hk ⊢
    split
    · exact .inr rfl
    · split
      · exact .inl rfl
      · rename_i q1 q2
        rw [if_neg q1, if_neg q2] at hk
        exact absurd rfl hk
  have l1 : 1 ≤ (stl (c :: r)).length := by rw [stl_len]; simp
  rcases k01 with rfl | rfl
  · have w0 : wrt (stl (c :: r)) smallT = true := (wrt_kc0 _).mpr h
    have w1 : wrt (stl (c :: r)) figT = false := Bool.eq_false_iff.mpr fun z => by
      have := (wrt_kc1 _).mp z c List.mem_cons_self
      omega
    have n1 : numS (stl (c :: r)) = false := by
      unfold numS
      rw [w1, Bool.and_false, Bool.false_and]
    have n2 : nameS (stl (c :: r)) = (decide ((c :: r).length ≤ 8) && !inV (.str (stl (c :: r))) (keptW.map V.str)) := by
      unfold nameS
      rw [w0, Bool.true_and]
      by_cases hl : (c :: r).length ≤ 8
      · rw [decide_eq_true hl, decide_eq_true ⟨l1, by rw [stl_len]; exact hl⟩]
      · rw [decide_eq_false hl, decide_eq_false (fun z => hl (by have := z.2; rw [stl_len] at this; exact this))]
    unfold gf leafA
    rw [if_pos rfl, n1, n2]
    generalize (decide ((c :: r).length ≤ 8) && !inV (.str (stl (c :: r))) (keptW.map V.str)) = b
    cases b <;> rfl
  · have w1 : wrt (stl (c :: r)) figT = true := (wrt_kc1 _).mpr h
    have w0 : wrt (stl (c :: r)) smallT = false := Bool.eq_false_iff.mpr fun z => by
      have := (wrt_kc0 _).mp z c List.mem_cons_self
      omega
    have n2 : nameS (stl (c :: r)) = false := by
      unfold nameS
      rw [w0, Bool.false_and, Bool.and_false]
    have n1 : numS (stl (c :: r)) = (decide ((c :: r).length ≤ 6) && (decide ((c :: r) = [48]) || decide ((c :: r).head? ≠ some 48))) := by
      unfold numS
      have e1 : decide (stl (c :: r) = "0") = decide ((c :: r) = [48]) := by
        by_cases z : (c :: r) = [48]
        · rw [decide_eq_true z, z, decide_eq_true (show stl [48] = "0" from zero_is.symm)]
        · rw [decide_eq_false z, decide_eq_false (fun y => z (stl_eq.mp (y.trans zero_is)))]
      have e2 : (stl (c :: r)).cps[0]? = (c :: r).head? := by simp
      rw [w1, Bool.and_true, e1, e2]
      by_cases hl : (c :: r).length ≤ 6
      · rw [decide_eq_true hl, decide_eq_true ⟨l1, by rw [stl_len]; exact hl⟩]
      · rw [decide_eq_false hl, decide_eq_false (fun z => hl (by have := z.2; rw [stl_len] at this; exact this)), Bool.false_and]
    unfold gf leafA
    rw [if_neg (by decide), decide_eq_true rfl, Bool.true_and, n1, n2]
    generalize (decide ((c :: r).length ≤ 6) && (decide ((c :: r) = [48]) || decide ((c :: r).head? ≠ some 48))) = b
    cases b <;> rfl
theorem gA_acc : ∀ (n : Nat) (l : List Nat), l.length ≤ n → ∀ d due, d ≤ 5 → (gA d due (tk l) = true ↔ Acc d due l) := by
  intro n
  induction n with
  | zero =>
    intro l hl d due hd
    have : l = [] := List.length_eq_zero_iff.mp (by omega)
    subst this
    show (decide (d = 0) && !due) = true ↔ _
    cases due with
    | true =>
      rw [acc_leaf (by simp)]
      refine ⟨fun h => (by simp at h), fun h => ?_⟩
      obtain ⟨⟨e, h1⟩, _⟩ := h
      rw [show ([] : List Nat).takeWhile noJ = [] from rfl, leafA_nil] at h1
      cases h1
    | false =>
      rw [acc_nil]
      simp
  | succ n ih =>
    intro l hl d due hd
    cases l with
    | nil =>
      show (decide (d = 0) && !due) = true ↔ _
      cases due with
      | true =>
        rw [acc_leaf (by simp)]
        refine ⟨fun h => (by simp at h), fun h => ?_⟩
        obtain ⟨⟨e, h1⟩, _⟩ := h
        rw [show ([] : List Nat).takeWhile noJ = [] from rfl, leafA_nil] at h1
        cases h1
      | false =>
        rw [acc_nil]
        simp
    | cons c r =>
      have hr : r.length ≤ n := by simpa using hl
      cases due with
      | true =>
        by_cases h40 : c = 40
        · subst h40
          rw [tk_oth (kc_joint noJ40), acc_opn]
          show (if true = true then (if [40] = [40] then decide (d < 5) && gA (d + 1) true (tk r) else _) else _) = true ↔ _
          rw [if_pos rfl, if_pos rfl, Bool.and_eq_true, decide_eq_true_iff]
          constructor
          · exact fun h => ⟨h.1, (ih r hr _ _ (by omega)).mp h.2⟩
          · exact fun h => ⟨h.1, (ih r hr _ _ (by omega)).mpr h.2⟩
        · rw [acc_leaf (by simp; exact h40)]
          by_cases hk : kc c = 2
          · rw [tk_oth hk]
            show (if true = true then (if [c] = [40] then _ else gf 2 [c] && gA d false (tk r)) else _) = true ↔ _
            rw [if_pos rfl, if_neg (by simp; exact h40), show gf 2 [c] = false from rfl, Bool.false_and]
            refine ⟨fun h => (by cases h), fun h => ?_⟩
            obtain ⟨⟨e, h1⟩, _⟩ := h
            cases hj : noJ c with
            | false =>
              rw [List.takeWhile_cons, hj] at h1
              have h1' : leafA [] = some e := h1
              rw [leafA_nil] at h1'
              cases h1'
            | true =>
              rw [List.takeWhile_cons, hj] at h1
              have h1' : leafA (c :: r.takeWhile noJ) = some e := h1
              rcases leaf_kc h1' with h2 | h2
              · have := h2 c List.mem_cons_self; omega
              · have := h2 c List.mem_cons_self; omega
          · -- a run of one kind
            have hj : noJ c = true := by
              cases hj : noJ c with
              | true => rfl
              | false => exact absurd (kc_joint hj) hk
            have hqk := tw_all (p := fun x => decide (kc x = kc c)) (c :: r)
            have hne : (c :: r).takeWhile (fun x => decide (kc x = kc c)) ≠ [] := by
              rw [List.takeWhile_cons, decide_eq_true rfl]
              simp
            have hhd := head_dw (p := fun x => decide (kc x = kc c)) (c :: r)
            have happ := List.takeWhile_append_dropWhile (p := fun x => decide (kc x = kc c)) (l := c :: r)
            have hlen := congrArg List.length happ
            rw [List.length_append] at hlen
            have hq1 : 1 ≤ ((c :: r).takeWhile (fun x => decide (kc x = kc c))).length := by
              rw [List.takeWhile_cons, decide_eq_true rfl]
              simp
            have hcm : c ∈ (c :: r).takeWhile (fun x => decide (kc x = kc c)) := by
              rw [List.takeWhile_cons, decide_eq_true rfl]
              exact List.mem_cons_self
            generalize hq : (c :: r).takeWhile (fun x => decide (kc x = kc c)) = q at hqk hne happ hlen hq1 hcm
            generalize hw : (c :: r).dropWhile (fun x => decide (kc x = kc c)) = w at hhd happ hlen
            have hqk' : ∀ x ∈ q, kc x = kc c := fun x hx => of_decide_eq_true (hqk x hx)
            have hwk : ∀ x, w.head? = some x → kc x ≠ kc c := fun x hx => of_decide_eq_false (hhd x hx)
            have hqj : ∀ x ∈ q, noJ x = true := fun x hx => by
              cases hj : noJ x with
              | true => rfl
              | false => exact absurd ((hqk' x hx).symm.trans (kc_joint hj)) hk
            have n40 : q ≠ [40] := fun e => by
              have := hqj 40 (by rw [e]; exact List.mem_cons_self)
              rw [noJ40] at this
              cases this
            rw [← happ, tk_run hk q w hne hqk' hwk]
            show (if true = true then (if q = [40] then _ else gf (kc c) q && gA d false (tk w)) else _) = true ↔ _
            rw [if_pos rfl, if_neg n40, Bool.and_eq_true, gf_leaf hk hne hqk']
            have hwl : w.length ≤ n := by
              simp at hlen
              omega
            by_cases hj2 : Joint w
            · obtain ⟨t1, t2⟩ := tw_app (p := noJ) hqj hj2
              rw [t1, t2, ih w hwl d false hd, Option.isSome_iff_exists]
            · -- another sign of a piece behind it
              have : ∃ x t, w = x :: t ∧ noJ x = true := by
                cases w with
                | nil => exact absurd (fun c h => by cases h) hj2
                | cons x t =>
                  refine ⟨x, t, rfl, ?_⟩
                  cases hx : noJ x with
                  | true => rfl
                  | false => exact absurd (fun c h => by cases h; exact hx) hj2
              obtain ⟨x, t, rfl, hx⟩ := this
              constructor
              · rintro ⟨_, h2⟩
                rw [ih _ hwl d false hd] at h2
                have hx' := (noJ_iff x).mp hx
                exact absurd h2 (acc_no hx'.2.2.2.2 (by omega))
              · rintro ⟨⟨e, h1⟩, _⟩
                have hxm : x ∈ (q ++ x :: t).takeWhile noJ := by
                  rw [List.takeWhile_append_of_pos hqj, List.takeWhile_cons, hx]
                  exact List.mem_append_right _ List.mem_cons_self
                have hcm2 : c ∈ (q ++ x :: t).takeWhile noJ := by
                  rw [List.takeWhile_append_of_pos hqj]
                  exact List.mem_append_left _ hcm
                have hkx := hwk x rfl
                rcases leaf_kc h1 with h2 | h2
                · exact absurd ((h2 x hxm).trans (h2 c hcm2).symm) hkx
                · exact absurd ((h2 x hxm).trans (h2 c hcm2).symm) hkx
      | false =>
        by_cases h41 : c = 41
        · subst h41
          rw [tk_oth (kc_joint noJ41), acc_cls]
          show (if false = true then _ else if [41] = [41] then decide (0 < d) && gA (d - 1) false (tk r) else _) = true ↔ _
          rw [if_neg (by decide), if_pos rfl, Bool.and_eq_true, decide_eq_true_iff, ih r hr _ _ (by omega)]
          constructor
          · exact fun h => ⟨d - 1, by omega, h.2⟩
          · rintro ⟨d', rfl, h⟩
            exact ⟨by omega, h⟩
        · by_cases hs : c = 42 ∨ c = 43 ∨ c = 45
          · have hk : kc c = 2 := by rcases hs with rfl | rfl | rfl <;> decide +kernel
            rw [tk_oth hk, acc_sgn hs]
            show (if false = true then _ else if [c] = [41] then _ else if [c] = [43] ∨ [c] = [45] ∨ [c] = [42] then gA d true (tk r) else false) = true ↔ _
            rw [if_neg (by decide), if_neg (by simp; exact h41), if_pos (by rcases hs with rfl | rfl | rfl <;> simp), ih r hr _ _ hd]
          · obtain ⟨k, p, ts, e⟩ := tk_head c r
            rw [e]
            show (if false = true then _ else if (c :: p) = [41] then _ else if (c :: p) = [43] ∨ (c :: p) = [45] ∨ (c :: p) = [42] then gA d true ts else false) = true ↔ _
            rw [if_neg (by decide), if_neg (fun z => h41 (by injection z)), if_neg (fun z => hs (by
              rcases z with z | z | z
              · injection z with z; exact .inr (.inl z)
              · injection z with z; exact .inr (.inr z)
              · injection z with z; exact .inl z))]
            exact ⟨fun h => (by cases h), fun h => absurd h (acc_no h41 hs)⟩
/-- the law's judgement is the reader's -/
theorem good_is (z : Str) : ((exprD z).isNone = (gA 0 true (tk (cl z)) && decide (z.length ≤ 60))) → False := by
  intro h
  have h1 := expr_acc z
  have h2 := gA_acc _ (cl z) (Nat.le_refl _) 0 true (by decide)
  cases hg : gA 0 true (tk (cl z)) with
  | true =>
    rw [hg, Bool.true_and] at h
    have ha := h2.mp hg
    by_cases hl : z.length ≤ 60
    · rw [decide_eq_true hl] at h
      have := h1.mpr ⟨hl, ha⟩
      cases he : exprD z with
      | none => rw [he] at this; cases this
      | some e => rw [he] at h; cases h
    · rw [decide_eq_false hl] at h
      cases he : exprD z with
      | none => rw [he] at h; cases h
      | some e => exact hl (h1.mp (by rw [he]; rfl)).1
  | false =>
    rw [hg, Bool.false_and] at h
    cases he : exprD z with
    | none => rw [he] at h; cases h
    | some e =>
      have := h2.mpr (h1.mp (by rw [he]; rfl)).2
      rw [hg] at this
      cases this
end Car

set_option maxHeartbeats 4000000
namespace Car
open PySem L2
/-! ### words of plain signs -/
noncomputable def As (n : Nat) (z : Str) : Prop := z.length ≤ n ∧ ∀ c ∈ cl z, c < 128
theorem As.mono {n m : Nat} {z : Str} (h : As n z) (hm : n ≤ m) : As m z := ⟨Nat.le_trans h.1 hm, h.2⟩
theorem As.add {n m : Nat} {y z : Str} (h1 : As n y) (h2 : As m z) : As (n + m) (y ++ z) := by
  refine ⟨?_, fun c hc => ?_⟩
  · rw [PySem.Str.length_append]
    have := h1.1
    have := h2.1
    omega
  · rw [cl_app] at hc
    rcases List.mem_append.mp hc with h | h
    · exact h1.2 c h
    · exact h2.2 c h
theorem As.len2 {n : Nat} {y z : Str} (h : As n (y ++ z)) : y.length + z.length ≤ n := by
  have := h.1
  rw [PySem.Str.length_append] at this
  exact this
theorem As.slice {n : Nat} {z : Str} (h : As n z) (lo hi : Option Int) : As n (Txt.slice z lo hi) := ⟨Nat.le_trans (Txt.slice_le z _ _) h.1, fun c hc => h.2 c (slice_mem hc)⟩
theorem As.one {z : Str} {c : Nat} (h : ∀ c ∈ cl z, c < 128) (hc : c ∈ cl z) : As 1 (st1 c) := ⟨Nat.le_refl _, fun d hd => by
  have e : d = c := by simpa using hd
  rw [e]
  exact h c hc⟩
theorem rep_foldl (x : Array Nat) : ∀ (k : Nat) (acc : Array Nat), ((List.replicate k x).foldl (· ++ ·) acc).size = acc.size + k * x.size ∧ ∀ c ∈ ((List.replicate k x).foldl (· ++ ·) acc).toList, c ∈ acc.toList ∨ c ∈ x.toList
  | 0, acc => ⟨by simp, fun c hc => .inl hc⟩
  | k + 1, acc => by
    rw [List.replicate_succ, List.foldl_cons]
    obtain ⟨h1, h2⟩ := rep_foldl x k (acc ++ x)
    refine ⟨by rw [h1, Array.size_append, Nat.succ_mul]; omega, fun c hc => ?_⟩
    rcases h2 c hc with h | h
    · rw [Array.toList_append] at h
      rcases List.mem_append.mp h with h | h
      · exact .inl h
      · exact .inr h
    · exact .inr h
theorem As.rep {n : Nat} {z : Str} (h : As n z) (k : Nat) : As (k * n) (repS z k) := by
  obtain ⟨h1, h2⟩ := rep_foldl z.cps k #[]
  refine ⟨?_, fun c hc => ?_⟩
  · show ((List.replicate k z.cps).foldl (· ++ ·) #[]).size ≤ k * n
    rw [h1]
    have h3 : z.cps.size ≤ n := h.1
    have : k * z.cps.size ≤ k * n := Nat.mul_le_mul_left k h3
    simp
    omega
  · rcases h2 c hc with h3 | h3
    · simp at h3
    · exact h.2 c h3
theorem As.lit {n : Nat} {z : Str} (h : (decide (z.length ≤ n) && (cl z).all fun c => decide (c < 128)) = true) : As n z := by
  rw [Bool.and_eq_true] at h
  exact ⟨of_decide_eq_true h.1, fun c hc => of_decide_eq_true (List.all_eq_true.mp h.2 c hc)⟩
theorem split_len {y : Str} {i : Int} (h0 : 0 ≤ i) (h1 : i ≤ (y.length : Int)) : (Txt.slice y none (some i)).length + (Txt.slice y (some i) none).length = y.length := by
  have hl : (cl y).length = y.length := len_cl y
  have e1 : Txt.slice y none (some i) = _ := StrLaws.sliceText_to (x := y) (j := i) ⟨h0, by show i ≤ ((cl y).length : Int); omega⟩
  have e2 : Txt.slice y (some i) none = _ := StrLaws.sliceText_from (x := y) (i := i) ⟨h0, by show i ≤ ((cl y).length : Int); omega⟩
  rw [e1, e2]
  show (((cl y).drop 0).take (i - 0).toNat).toArray.size + (((cl y).drop i.toNat).take (((cl y).length : Int) - i).toNat).toArray.size = _
  rw [List.size_toArray, List.size_toArray, List.length_take, List.length_take, List.length_drop, List.length_drop]
  omega
theorem one_len {y : Str} {i : Int} (h0 : 0 ≤ i) : (Txt.slice y (some i) (some (i + 1))).length ≤ 1 := by
  obtain ⟨k, rfl⟩ := Int.eq_ofNat_of_zero_le h0
  show (sg y k).length ≤ 1
  by_cases h : k < y.cps.size
  · rw [sg_some (Array.getElem?_eq_getElem h)]
    exact Nat.le_refl _
  · rw [sg_none (by omega)]
    exact Nat.zero_le _
section
variable {P : Program} {w : World} {K : PySem.W.Frag} {mg : Str → Option Value} {base : Heap} {f : Addr} {fd' : FuncData}
noncomputable def spSpoilt : Sp := fun vs H Q _ => ∃ (z : Str) (cell k : Int), vs = [.str z, .int cell, .int k] ∧ 0 ≤ k ∧ k ≤ 900 ∧ As 450 z ∧ ∀ z' H', As (max 410 (2 * z.length + 14)) z' → Same H H' → Q (.str z') H'
theorem scSpoilt : FnScope ["word", "cell", "k", "kind", "at", "number", "signs", "left", "there"] ["word", "cell", "k"] (defScope sSpoilt) := ⟨rfl, rfl, rfl, by decide +kernel, rfl, by decide +kernel, by decide +kernel⟩
theorem ok_spoilt (T : LawT mg) (FS : Fn P w K mg base "_law_stir" 1 ["cell", "k"] spStir) (F : Fun K "_law_spoilt" "_law_spoilt" sSpoilt f fd') : FnOk P w K mg base (CX1 P w) 2 f fd' ["word", "cell", "k"] spSpoilt := by
  have nd := scSpoilt.nd
  refine F.ok1 scSpoilt (fun vs H Q E h => ?_) (fun cdv A outer s H vs Q E hr h => ?_)
  · obtain ⟨z, cell, k, rfl, _⟩ := h
    rfl
  obtain ⟨z, cell, k, rfl, k0, k1, az, q⟩ := h
  refine ⟨_, (pss_cons (ps_set (i := 3) nd rfl (Or.inl rfl) (pe_op op_mod (pf_call FS hr rfl (pass1 (E := E)) (pa_cons (pv 1) (pa_cons (pv 2) pa_nil))) pe_int))
    (pss_cons (ps_set (i := 4) nd rfl (Or.inl rfl) (pe_op op_mod (pf_call FS hr rfl (pass1 (E := E)) (pa_cons (pv 1) (pa_cons (pe_op op_add (pv 2) pe_int) pa_nil))) (pe_op op_add (pe_callB call_len_str rfl T.len PySem.boot_len (pa_cons (pv 0) pa_nil)) pe_int)))
    (pss_cons (ps_set (i := 5) nd rfl (Or.inl rfl) (pf_call FS hr rfl (pass1 (E := E)) (pa_cons (pv 1) (pa_cons (pe_op op_add (pv 2) pe_int) pa_nil))))
    (pss_cons (ps_if (pt_cmpR op_lt (pv 3) pe_int (nomark _)) (pss_one (ps_ret (pe_op op_add_str (pe_op op_add_str (pe_slice sl_str (pv 0) po_none (po_some (pv 4))) (pe_ix ix_str pe_str (pe_op op_mod (pv 5) pe_int) (fun _ _ => rfl))) (pe_slice sl_str (pv 0) (po_some (pv 4)) po_none)))) pss_nil)
    (pss_cons (ps_if (pt_cmpR op_eq (pv 3) pe_int (nomark _)) (pss_one (ps_ret (pe_op op_add_str (pe_slice sl_str (pv 0) po_none (po_some (pv 4))) (pe_slice sl_str (pv 0) (po_some (pe_op op_add (pv 4) pe_int)) po_none)))) pss_nil)
    (pss_cons (ps_if (pt_cmpR op_eq (pv 3) pe_int (nomark _)) (pss_cons (ps_set (i := 6) nd rfl (Or.inl rfl) pe_str)
    (pss_one (ps_ret (pe_op op_add_str (pe_op op_add_str (pe_slice sl_str (pv 0) po_none (po_some (pv 4))) (pe_ix ix_str (pv 6) (pe_op op_mod (pv 5) pe_int) (fun _ _ => rfl))) (pe_slice sl_str (pv 0) (po_some (pv 4)) po_none))))) pss_nil)
    (pss_cons (ps_if (pt_cmpR op_eq (pv 3) pe_int (nomark _)) (pss_one (ps_ret (pe_op op_add_str (pe_op op_add_str (pe_op op_mulS pe_str (pe_op op_add pe_int (pe_op op_mod (pv 5) pe_int))) (pv 0)) (pe_op op_mulS pe_str (pe_op op_add pe_int (pe_op op_mod (pv 5) pe_int)))))) pss_nil)
    (pss_cons (ps_if (pt_cmpR op_eq (pv 3) pe_int (nomark _)) (pss_cons (ps_set (i := 7) nd rfl (Or.inl rfl) (pe_op op_add_str (pe_slice sl_str (pv 0) po_none (po_some (pv 4))) (pe_slice sl_str (pv 0) (po_some (pe_op op_add (pv 4) pe_int)) po_none)))
    (pss_cons (ps_set (i := 8) nd rfl (Or.inl rfl) (pe_op op_mod (pv 5) (pe_op op_add (pe_callB call_len_str rfl T.len PySem.boot_len (pa_cons (pv 7) pa_nil)) pe_int)))
    (pss_one (ps_ret (pe_op op_add_str (pe_op op_add_str (pe_slice sl_str (pv 7) po_none (po_some (pv 8))) (pe_slice sl_str (pv 0) (po_some (pv 4)) (po_some (pe_op op_add (pv 4) pe_int)))) (pe_slice sl_str (pv 7) (po_some (pv 8)) po_none)))))) pss_nil)
    (pss_one (ps_ret (pe_op op_add_str (pv 0) (pe_op op_mulS (pe_op op_add_str pe_str (pv 0)) (pe_op op_mod (pv 5) (pe_ix (ix_listK (K := K) rfl) (pe_lst (pa_cons pe_int (pa_cons pe_int pa_nil))) (pe_callTy call_int1 rfl T.int bt_int (pa_cons (pe_cmpR op_lt (pe_callB call_len_str rfl T.len PySem.boot_len (pa_cons (pv 0) pa_nil)) pe_int (nomark _)) pa_nil)) (fun _ _ => rfl))))))))))))))), ?_⟩
  have lin : ∀ n : Nat, n ≤ 1800 → n ≤ sizeLine := fun n h => Nat.le_of_lt (line3 h (by decide))
  have hz : z.length ≤ sizeLine := lin _ (by have := az.1; omega)
  have az' : As z.length z := ⟨Nat.le_refl _, az.2⟩
  have lz := az.1
  refine ⟨_, rfl, _, rfl, cell, k, rfl, k0, by omega, fun n0 _ _ => ⟨_, _, rfl, rfl, (by show (0 : Int) < 7; decide), ?_⟩⟩
  refine ⟨_, rfl, _, rfl, _, _, rfl, rfl, cell, k + 1, rfl, by omega, by omega, fun n1 _ _ => ⟨_, rfl, z, rfl, hz, _, _, rfl, rfl, _, _, rfl, rfl, (by show (0 : Int) < (z.length : Int) + 1; omega), ?_⟩⟩
  refine ⟨_, rfl, _, rfl, _, _, rfl, rfl, cell, k + 2, rfl, by omega, by omega, fun n n0' n1' => ?_⟩
  have ins : ∀ (c : Nat) (y : Str), c ∈ cl y → (∀ c ∈ cl y, c < 128) → As (z.length + 1 + z.length) (Txt.slice z none (some (n1 % ((z.length : Int) + 1))) ++ st1 c ++ Txt.slice z (some (n1 % ((z.length : Int) + 1))) none) := fun c y hc hy => ((az'.slice _ _).add (As.one hy hc)).add (az'.slice _ _)
  have lins : ∀ c : Nat, (Txt.slice z none (some (n1 % ((z.length : Int) + 1)))).length + (st1 c).length ≤ sizeLine := fun c => lin _ (by
    have := (az'.slice none (some (n1 % ((z.length : Int) + 1)))).1
    have : (st1 c).length = 1 := rfl
    omega)
  refine ⟨_, rfl, _, _, rfl, rfl, _, rfl, ?_⟩
  refine ite2 (fun _ => ?_) (fun _ => ?_)
  · have e5 : (Str.ofString "+-*()").cps.toList = [43, 45, 42, 40, 41] := by decide +kernel
    have b := mod_lt n (show (0 : Int) < 5 by decide)
    obtain ⟨c, hc, hm⟩ := at_memG (xs := (Str.ofString "+-*()").cps.toList) (i := n % 5) b.1 (by rw [e5]; exact b.2)
    have a1 := ins c (Str.ofString "+-*()") hm (As.lit (n := 5) (by decide +kernel)).2
    exact ⟨_, rfl, _, rfl, _, rfl, z, rfl, hz, _, rfl, _, _, rfl, rfl, (by show (0 : Int) < 5; decide), _, _, c, rfl, rfl, (by decide), hc, _, _, rfl, rfl, lins c, _, rfl, _, rfl, _, rfl, z, rfl, hz, _, _, rfl, rfl, Nat.le_trans a1.len2 (lin _ (by omega)), q _ _ (a1.mono (by omega)) (Same.refl _)⟩
  refine ⟨_, rfl, rfl, _, rfl, ?_⟩
  refine ite2 (fun _ => ?_) (fun _ => ?_)
  · have a1 : As (z.length + z.length) (Txt.slice z none (some (n1 % ((z.length : Int) + 1))) ++ Txt.slice z (some ((n1 % ((z.length : Int) + 1)) + 1)) none) := (az'.slice _ _).add (az'.slice _ _)
    exact ⟨_, rfl, _, rfl, _, rfl, z, rfl, hz, _, rfl, _, rfl, _, _, rfl, rfl, _, rfl, z, rfl, hz, _, _, rfl, rfl, Nat.le_trans a1.len2 (lin _ (by omega)), q _ _ (a1.mono (by omega)) (Same.refl _)⟩
  refine ⟨_, rfl, rfl, _, rfl, ?_⟩
  refine ite2 (fun _ => ?_) (fun _ => ?_)
  · have ls : 94 ≤ (Str.ofString " !\"#$&'()*+,-./0123456789:;<=>?@ABCDEFGHIJKLMNOPQRSTUVWXYZ[\\]^_`abcdefghijklmnopqrstuvwxyz{|}~").cps.toList.length := by decide +kernel
    have al : As 94 (Str.ofString " !\"#$&'()*+,-./0123456789:;<=>?@ABCDEFGHIJKLMNOPQRSTUVWXYZ[\\]^_`abcdefghijklmnopqrstuvwxyz{|}~") := As.lit (by decide +kernel)
    have b := mod_lt n (show (0 : Int) < 94 by decide)
    obtain ⟨c, hc, hm⟩ := at_memG (xs := (Str.ofString " !\"#$&'()*+,-./0123456789:;<=>?@ABCDEFGHIJKLMNOPQRSTUVWXYZ[\\]^_`abcdefghijklmnopqrstuvwxyz{|}~").cps.toList) (i := n % 94) b.1 (by omega)
    have a1 := ins c _ hm al.2
    exact ⟨_, rfl, _, rfl, _, rfl, z, rfl, hz, _, rfl, _, rfl, _, _, rfl, rfl, (by show (0 : Int) < 94; decide), _, _, c, rfl, rfl, lin _ (by have := al.1; omega), hc, _, _, rfl, rfl, lins c, _, rfl, _, rfl, _, rfl, z, rfl, hz, _, _, rfl, rfl, Nat.le_trans a1.len2 (lin _ (by omega)), q _ _ (a1.mono (by omega)) (Same.refl _)⟩
  refine ⟨_, rfl, rfl, _, rfl, ?_⟩
  refine ite2 (fun _ => ?_) (fun _ => ?_)
  · have b := mod_lt n (show (0 : Int) < 7 by decide)
    have ao : As 7 (repS (Str.ofString "(") (1 + n % 7).toNat) := ((As.lit (n := 1) (z := Str.ofString "(") (by decide +kernel)).rep _).mono (by omega)
    have ac : As 7 (repS (Str.ofString ")") (1 + n % 7).toNat) := ((As.lit (n := 1) (z := Str.ofString ")") (by decide +kernel)).rep _).mono (by omega)
    have a1 := (ao.add az').add ac
    exact ⟨_, rfl, _, _, rfl, rfl, (by show (0 : Int) < 7; decide), _, _, rfl, rfl, _, _, rfl, rfl, (by show 1 + n % 7 ≤ 1000; omega), (by show -1000 ≤ 1 + n % 7; omega), (by decide), _, rfl, _, _, rfl, rfl, lin _ (by have := (ao.add az').len2; omega), _, rfl, _, _, rfl, rfl, (by show (0 : Int) < 7; decide), _, _, rfl, rfl, _, _, rfl, rfl, (by show 1 + n % 7 ≤ 1000; omega), (by show -1000 ≤ 1 + n % 7; omega), (by decide), _, _, rfl, rfl, Nat.le_trans a1.len2 (lin _ (by omega)), q _ _ (a1.mono (by omega)) (Same.refl _)⟩
  refine ⟨_, rfl, rfl, _, rfl, ?_⟩
  refine ite2 (fun _ => ?_) (fun _ => ?_)
  · have b1 := mod_lt n1 (show (0 : Int) < (z.length : Int) + 1 by omega)
    have a1 : As (z.length + z.length) (Txt.slice z none (some (n1 % ((z.length : Int) + 1))) ++ Txt.slice z (some (n1 % ((z.length : Int) + 1) + 1)) none) := (az'.slice _ _).add (az'.slice _ _)
    have aw : As z.length (Txt.slice z (some (n1 % ((z.length : Int) + 1))) (some (n1 % ((z.length : Int) + 1) + 1))) := az'.slice _ _
    have lw := one_len (y := z) b1.1
    refine ⟨_, rfl, _, rfl, _, rfl, z, rfl, hz, _, rfl, _, rfl, _, _, rfl, rfl, _, rfl, z, rfl, hz, _, _, rfl, rfl, Nat.le_trans a1.len2 (lin _ (by omega)), ?_⟩
    have ll := a1.1
    have al := a1.2
    generalize Txt.slice z none (some (n1 % ((z.length : Int) + 1))) ++ Txt.slice z (some (n1 % ((z.length : Int) + 1) + 1)) none = left at ll al ⊢
    have hll : left.length ≤ sizeLine := lin _ (by omega)
    refine ⟨_, rfl, _, rfl, left, rfl, hll, _, _, rfl, rfl, _, _, rfl, rfl, (by show (0 : Int) < (left.length : Int) + 1; omega), ?_⟩
    have b2 := mod_lt n (show (0 : Int) < (left.length : Int) + 1 by omega)
    have sp := split_len (y := left) (i := n % ((left.length : Int) + 1)) b2.1 (by omega)
    have c1 : ∀ c ∈ cl (Txt.slice left none (some (n % ((left.length : Int) + 1)))), c < 128 := fun c h => al c (slice_mem h)
    have c2 : ∀ c ∈ cl (Txt.slice left (some (n % ((left.length : Int) + 1))) none), c < 128 := fun c h => al c (slice_mem h)
    have t1 : As _ (Txt.slice left none (some (n % ((left.length : Int) + 1)))) := ⟨Nat.le_refl _, c1⟩
    have t2 : As _ (Txt.slice left (some (n % ((left.length : Int) + 1))) none) := ⟨Nat.le_refl _, c2⟩
    have t3 : As 1 (Txt.slice z (some (n1 % ((z.length : Int) + 1))) (some (n1 % ((z.length : Int) + 1) + 1))) := ⟨lw, aw.2⟩
    have t4 := (t1.add t3).add t2
    exact ⟨_, rfl, _, rfl, _, rfl, left, rfl, hll, _, rfl, _, rfl, _, rfl, _, rfl, _, _, rfl, rfl, _, rfl, z, rfl, hz, _, _, rfl, rfl, Nat.le_trans (t1.add t3).len2 (lin _ (by omega)), _, rfl, _, rfl, _, rfl, left, rfl, hll, _, _, rfl, rfl, Nat.le_trans t4.len2 (lin _ (by omega)), q _ _ (t4.mono (by omega)) (Same.refl _)⟩
  · have ap : As 1 (Str.ofString "+") := As.lit (by decide +kernel)
    have a1 := ap.add az'
    refine ⟨_, rfl, _, rfl, _, _, rfl, rfl, Nat.le_trans a1.len2 (lin _ (by omega)), _, rfl, le2, fun l hl => ⟨_, rfl, z, rfl, hz, _, _, rfl, rfl, .inr ⟨_, rfl, ?_⟩⟩⟩
    have fin : ∀ m : Int, 0 < m → (m.toNat - 1) * (z.length + 1) + z.length ≤ max 410 (2 * z.length + 14) → m ≤ 10 → ∃ t : Int, n % m = t ∧ t ≤ 1000 ∧ -1000 ≤ t ∧ z.length + (repS (Str.ofString "+" ++ z) t.toNat).length ≤ sizeLine ∧ As (max 410 (2 * z.length + 14)) (z ++ repS (Str.ofString "+" ++ z) t.toNat) := fun m m0 hm m10 => by
      have b := mod_lt n m0
      refine ⟨_, rfl, by omega, by omega, ?_⟩
      have a2 := az'.add (a1.rep (n % m).toNat)
      have le : (n % m).toNat * (1 + z.length) ≤ (m.toNat - 1) * (z.length + 1) := by
        rw [Nat.add_comm 1 z.length]
        exact Nat.mul_le_mul_right _ (by omega)
      have a3 := a2.mono (show _ ≤ max 410 (2 * z.length + 14) by omega)
      exact ⟨Nat.le_trans a3.len2 (lin _ (by omega)), a3⟩
    by_cases c : ((z.length : Nat) : Int) < 40
    · rw [decide_eq_true c]
      obtain ⟨t, ht, h1, h2, h3, h4⟩ := fin 10 (by decide) (by
        have : (Int.toNat 10 - 1) * (z.length + 1) ≤ 9 * 40 := Nat.mul_le_mul (by decide) (by omega)
        omega) (by decide)
      refine ⟨l, _, _, .int 10, rfl, rfl, SqL.of upd_same, rfl, _, _, rfl, rfl, (by show (0 : Int) < 10; decide), _, _, rfl, rfl, (by show n % 10 ≤ 1000; omega), (by show -1000 ≤ n % 10; omega), (by rw [PySem.Str.length_append]; have := ap.1; omega), z, _, rfl, rfl, ?_, q _ _ ?_ (same_upd hl _)⟩
      · rw [ht]; exact h3
      · rw [ht]; exact h4
    · rw [decide_eq_false c]
      obtain ⟨t, ht, h1, h2, h3, h4⟩ := fin 2 (by decide) (by
        show (2 - 1) * (z.length + 1) + z.length ≤ _
        omega) (by decide)
      refine ⟨l, _, _, .int 2, rfl, rfl, SqL.of upd_same, rfl, _, _, rfl, rfl, (by show (0 : Int) < 2; decide), _, _, rfl, rfl, (by show n % 2 ≤ 1000; omega), (by show -1000 ≤ n % 2; omega), (by rw [PySem.Str.length_append]; have := ap.1; omega), z, _, rfl, rfl, ?_, q _ _ ?_ (same_upd hl _)⟩
      · rw [ht]; exact h3
      · rw [ht]; exact h4
end
end Car

set_option maxHeartbeats 4000000
namespace Car
open PySem L2
theorem for_str {z : Str} {g : TG} {tb : TS} {D : Ends} {σ : St} {H : Hp} (Pv : Nat → St → Hp → Prop) (h0 : Pv 0 σ H)
    (hs : ∀ i c σ H, (cl z)[i]? = some c → Pv i σ H → g (.str (st1 c)) σ H fun σ2 H2 => tb { D with nx := Pv (i + 1), ct := Pv (i + 1), bk := D.nx } σ2 H2) (hd : ∀ σ H, Pv (cl z).length σ H → D.nx σ H) :
    ∃ W : Nat → Nat → St → Hp → Prop, (∃ m, W 0 m σ H) ∧ ∀ i m σ H, W i m σ H →
      ((Its z).stop i H ∧ D.nx σ H) ∨ ((Its z).go i H ∧ ∃ N : St → Hp → Prop, (∀ σ' H', N σ' H' → ∃ m', m' < m ∧ W (i + 1) m' σ' H') ∧ ∀ x H', (Its z).yld i H x H' → g x σ H' fun σ2 H2 => tb { D with nx := N, ct := N, bk := D.nx } σ2 H2) := by
  have hz : z.cps.size = (cl z).length := by simp
  refine ⟨fun i m σ H => m = (cl z).length - i ∧ i ≤ (cl z).length ∧ Pv i σ H, ⟨(cl z).length, by simp, Nat.zero_le _, h0⟩, ?_⟩
  rintro i m σ H ⟨rfl, hi, p⟩
  by_cases hlt : i < (cl z).length
  · refine .inr ⟨by show i < z.cps.size; omega, Pv (i + 1), fun σ' H' p' => ⟨(cl z).length - (i + 1), by omega, rfl, hlt, p'⟩, fun x H' y => ?_⟩
    obtain ⟨rfl, c, hc, rfl⟩ := y
    exact hs i c σ _ (by simpa using hc) p
  · have e : i = (cl z).length := by omega
    subst e
    exact .inl ⟨by show z.cps.size ≤ _; omega, hd σ H p⟩
theorem take_snoc {l : List Nat} {i c : Nat} (h : l[i]? = some c) : l.take (i + 1) = l.take i ++ [c] := by
  obtain ⟨hl, e⟩ := List.getElem?_eq_some_iff.mp h
  rw [List.take_succ_eq_append_getElem hl, e]
/-! ### parts on the heap -/
noncomputable def kn (k : Nat) : Str := if k = 0 then "letter" else if k = 1 then "figure" else "other"
noncomputable def tkV (t : Tk) : List V := [.str (kn t.1), .str (stl t.2)]
noncomputable def PsAt (H : Hp) (p : Addr) (ts : List Tk) : Prop := ∃ as : List Addr, H p = some (.lst (as.map V.ref)) ∧ MvAt H as (ts.map tkV)
theorem kc_le (c : Nat) : kc c ≤ 2 := by
  unfold kc
  split
  · decide
  · split <;> decide
theorem kn_inj {a b : Nat} (ha : a ≤ 2) (hb : b ≤ 2) : kn a = kn b ↔ a = b := by
  have h : ∀ a : Fin 3, ∀ b : Fin 3, kn a.val = kn b.val → a.val = b.val := by decide +kernel
  exact ⟨h ⟨a, by omega⟩ ⟨b, by omega⟩, fun e => by rw [e]⟩
/-- what holds of the parts of a word -/
structure Pt (t : Tk) : Prop where
  k : t.1 ≤ 2
  ne : t.2 ≠ []
  lt : ∀ c ∈ t.2, c < 128
theorem pstep_pt {ts : List Tk} {c : Nat} (hc : c < 128) (h : ∀ t ∈ ts, Pt t) : ∀ t ∈ pstep ts c, Pt t := by
  have one : Pt (kc c, [c]) := ⟨kc_le c, by simp, fun d hd => by rw [List.mem_singleton.mp hd]; exact hc⟩
  rcases List.eq_nil_or_concat ts with rfl | ⟨r, u, rfl⟩
  · intro t ht
    have : t = (kc c, [c]) := by simpa [pstep] using ht
    rw [this]
    exact one
  · rw [List.concat_eq_append] at h ⊢
    have hu := h u (by simp)
    rw [pstep_is]
    split
    · intro t ht
      rcases List.mem_append.mp ht with ht | ht
      · exact h t (List.mem_append_left _ ht)
      · rw [List.mem_singleton.mp ht]
        refine ⟨kc_le c, by simp, fun d hd => ?_⟩
        rcases List.mem_append.mp hd with hd | hd
        · exact hu.lt d hd
        · rw [List.mem_singleton.mp hd]
          exact hc
    · intro t ht
      rcases List.mem_append.mp ht with ht | ht
      · exact h t ht
      · rw [List.mem_singleton.mp ht]
        exact one
theorem fold_pt : ∀ (l : List Nat) (ts : List Tk), (∀ c ∈ l, c < 128) → (∀ t ∈ ts, Pt t) → ∀ t ∈ l.foldl pstep ts, Pt t
  | [], ts, _, h => h
  | c :: l, ts, hl, h => fold_pt l (pstep ts c) (fun d hd => hl d (List.mem_cons_of_mem _ hd)) (pstep_pt (hl c List.mem_cons_self) h)
theorem pstep_len (ts : List Tk) (c : Nat) : (pstep ts c).length ≤ ts.length + 1 ∧ (∀ n, (∀ t ∈ ts, t.2.length ≤ n) → ∀ t ∈ pstep ts c, t.2.length ≤ n + 1) := by
  rcases List.eq_nil_or_concat ts with rfl | ⟨r, u, rfl⟩
  · exact ⟨by simp [pstep], fun n _ t ht => by
      have : t = (kc c, [c]) := by simpa [pstep] using ht
      rw [this]
      show 1 ≤ n + 1
      omega⟩
  · rw [List.concat_eq_append, pstep_is]
    split
    · refine ⟨by simp, fun n h t ht => ?_⟩
      rcases List.mem_append.mp ht with ht | ht
      · exact Nat.le_succ_of_le (h t (List.mem_append_left _ ht))
      · rw [List.mem_singleton.mp ht]
        have := h u (by simp)
        show (u.2 ++ [c]).length ≤ n + 1
        simp
        omega
    · refine ⟨by simp, fun n h t ht => ?_⟩
      rcases List.mem_append.mp ht with ht | ht
      · exact Nat.le_succ_of_le (h t ht)
      · rw [List.mem_singleton.mp ht]
        show 1 ≤ n + 1
        omega
theorem fold_len : ∀ (l : List Nat) (ts : List Tk) (n : Nat), ts.length ≤ n → (∀ t ∈ ts, t.2.length ≤ n) → (l.foldl pstep ts).length ≤ n + l.length ∧ ∀ t ∈ l.foldl pstep ts, t.2.length ≤ n + l.length
  | [], ts, n, h1, h2 => ⟨h1, h2⟩
  | c :: l, ts, n, h1, h2 => by
    obtain ⟨p1, p2⟩ := pstep_len ts c
    have := fold_len l (pstep ts c) (n + 1) (by omega) (p2 n h2)
    rw [List.foldl_cons, List.length_cons]
    rw [show n + 1 + l.length = n + (l.length + 1) by omega] at this
    exact this
section
variable {P : Program} {w : World} {K : PySem.W.Frag} {mg : Str → Option Value} {base : Heap} {f CN : Addr} {fd' : FuncData}
theorem tk_rps {H : Hp} : ∀ {as : List Addr} {ts : List Tk}, MvAt H as (ts.map tkV) → Rps K H (as.map V.ref) (ts.map fun t => PyData.tuple [.str (kn t.1), .str (stl t.2)])
  | [], [], _ => .nil
  | [], _ :: _, h => by cases h
  | _ :: _, [], h => by cases h
  | a :: as, t :: ts, h => .cons (.tup (SqT.of h.1) (.cons (.str _) (.cons (.str _) .nil))) (tk_rps h.2)
theorem tk_sh : ∀ ts : List Tk, (∀ t ∈ ts, Pt t) → PyData.canLayAll0 (ts.map fun t => PyData.tuple [.str (kn t.1), .str (stl t.2)]) = true ∧ PyData.depthAll (ts.map fun t => PyData.tuple [.str (kn t.1), .str (stl t.2)]) ≤ 1
  | [], _ => ⟨rfl, by decide⟩
  | t :: ts, h => by
    obtain ⟨h1, h2⟩ := tk_sh ts fun u hu => h u (List.mem_cons_of_mem _ hu)
    have ht := h t List.mem_cons_self
    have e1 : PyData.strOk (kn t.1) = true := by
      have : ∀ a : Fin 3, PyData.strOk (kn a.val) = true := by decide +kernel
      exact this ⟨t.1, by have := ht.k; omega⟩
    have e2 : PyData.strOk (stl t.2) = true := by
      unfold PyData.strOk
      rw [← Array.all_toList, List.all_eq_true]
      exact fun c hc => decide_eq_true (Nat.lt_of_lt_of_le (ht.lt c (by simpa using hc)) (by decide))
    rw [List.map_cons]
    simp only [PyData.canLayAll0, PyData.canLay0, PyData.depthAll, PyData.depth, e1, e2, h1]
    exact ⟨rfl, by omega⟩
theorem tk_eqv (ts : List Tk) : PyData.eqv (.list (ts.map fun t => PyData.tuple [.str (kn t.1), .str (stl t.2)])) (.list []) = ts.isEmpty := by
  cases ts with
  | nil => rfl
  | cons t ts => rfl
/-! ### _law_parts -/
noncomputable def spParts : Sp := fun vs H Q _ => ∃ z : Str, vs = [.str z] ∧ z.length ≤ 1000 ∧ (∀ c ∈ cl z, c < 128) ∧ ∀ p H', Same H H' → PsAt H' p (tk (cl z)) → Q (.ref p) H'
theorem scParts : FnScope ["word", "parts", "letters", "sign", "kind"] ["word"] (defScope sParts) := ⟨rfl, rfl, rfl, by decide +kernel, rfl, by decide +kernel, by decide +kernel⟩
theorem MvAt.last {H : Hp} : ∀ {as : List Addr} {ms : List (List V)} {m : List V}, MvAt H as (ms ++ [m]) → ∃ bs a, as = bs ++ [a] ∧ H a = some (.tup m) ∧ MvAt H bs ms
  | [], [], m, h => by cases h
  | [], _ :: _, m, h => by cases h
  | [a], [], m, h => ⟨[], a, rfl, h.1, h.2⟩
  | a :: b :: as, [], m, h => by
    have h2 : MvAt H (b :: as) [] := h.2
    cases h2
  | a :: as, n :: ms, m, h => by
    obtain ⟨bs, b, e, h1, h2⟩ := MvAt.last (as := as) (ms := ms) (m := m) h.2
    exact ⟨a :: bs, b, by rw [e]; rfl, h1, h.1, h2⟩
theorem ix_last (n : Nat) : ixN (n + 1) (-1) = some n := by
  unfold ixN
  rw [if_neg (by decide), if_pos (by omega)]
  congr 1
  omega
theorem ok_parts (T : LawT mg) (F : Fun K "_law_parts" "_law_parts" sParts f fd') : FnOk P w K mg base (CX1 P w) 1 f fd' ["word"] spParts := by
  have nd := scParts.nd
  refine F.ok1 scParts (fun vs H Q E h => ?_) (fun cdv A outer s H vs Q E hr h => ?_)
  · obtain ⟨z, rfl, _⟩ := h
    rfl
  obtain ⟨z, rfl, hz, hlt, q⟩ := h
  refine ⟨_, (pss_cons (ps_set (i := 1) nd rfl (Or.inl rfl) (pe_lst pa_nil))
    (pss_cons (ps_set (i := 2) nd rfl (Or.inl rfl) pe_str)
    (pss_cons (ps_for own1 rfl (pi_str (pv 0)) (pg_name (i := 3) nd rfl (Or.inl rfl)) (pss_cons (ps_set (i := 4) nd rfl (Or.inl rfl) pe_str)
    (pss_mid (ps_if (pt_cmpR op_in_str (pv 3) (pv 2) (by with_unfolding_all rfl)) (pss_one (ps_set (i := 4) nd rfl (Or.inl rfl) pe_str)) pss_nil)
    (pss_mid (ps_if (pt_cmpR op_in_str (pv 3) pe_str (by with_unfolding_all rfl)) (pss_one (ps_set (i := 4) nd rfl (Or.inl rfl) pe_str)) pss_nil)
    (pss_one (ps_if (PW.pt (pw_and (pt_cmpR (op_neD hr.units) (pv 1) (pe_lst pa_nil) (nomark _)) (pw_and (pt_cmpR op_ne (pv 4) pe_str (nomark _)) (pw_and1 (pt_cmpR op_eq (pe_ix ix_tup (pe_ix (ix_listK (K := K) rfl) (pv 1) (pe_un un_neg pe_int) (fun _ _ => rfl)) pe_int (fun _ _ => rfl)) (pv 4) (nomark _)))))) (pss_one (ps_asg (pe_tup (pa_cons (pv 4) (pa_cons (pe_op op_add_str (pe_ix ix_tup (pe_ix (ix_listK (K := K) rfl) (pv 1) (pe_un un_neg pe_int) (fun _ _ => rfl)) pe_int (fun _ _ => rfl)) (pv 3)) pa_nil))) (pg_sub (pv 1) (pe_un un_neg pe_int) set_list))) (pss_one (ps_expr (pe_bm PySem.F.plainAttrs_list PySem.F.slot_list_append PySem.F.type_list_append mt_append (pv 1) (pa_cons (pe_tup (pa_cons (pv 4) (pa_cons (pv 3) pa_nil))) pa_nil))))))))))
    (pss_one (ps_ret (pv 1)))))), ?_⟩
  refine ⟨Nat.zero_le _, fun p hp => ⟨_, rfl, z, rfl, ?_⟩⟩
  refine for_str (z := z) (fun i σ H1 => ∃ o1 o2 : Option V, σ = [some (.str z), some (.ref p), some (.str smallT), o1, o2] ∧ Same H H1 ∧ PsAt H1 p (((cl z).take i).foldl pstep [])) ⟨none, none, rfl, same_upd hp _, [], upd_same, trivial⟩ ?_ ?_
  · rintro i c σ H1 hc ⟨o1, o2, rfl, s1, as, hP, hM⟩
    have e : ((cl z).take (i + 1)).foldl pstep [] = pstep (((cl z).take i).foldl pstep []) c := by
      rw [take_snoc hc, List.foldl_append]
      rfl
    rw [e]
    have hlc : ∀ d ∈ (cl z).take i, d < 128 := fun d hd => hlt d (List.mem_of_mem_take hd)
    have hpt := fold_pt ((cl z).take i) [] hlc (fun t ht => by cases ht)
    have hfl := fold_len ((cl z).take i) [] 0 (Nat.zero_le _) (fun t ht => by cases ht)
    have htl : ((cl z).take i).length ≤ 1000 := by rw [List.length_take, len_cl]; omega
    generalize ((cl z).take i).foldl pstep [] = ts at hM hpt hfl ⊢
    have hc128 : c < 128 := hlt c (List.mem_of_getElem? hc)
    refine ⟨fun σ H2 => σ = [some (.str z), some (.ref p), some (.str smallT), some (.str (st1 c)), some (.str (if c ∈ cl smallT then "letter" else "other"))] ∧ H2 = H1, ?_, ?_⟩
    · refine ⟨_, rfl, _, rfl, _, _, rfl, rfl, _, rfl, ?_⟩
      rw [StrLaws.found_one]
      by_cases h : c ∈ cl smallT
      · rw [decide_eq_true h, if_pos h]
        exact iteT ⟨rfl, rfl⟩
      · rw [decide_eq_false h, if_neg h]
        exact iteF ⟨rfl, rfl⟩
    rintro σ H2 ⟨rfl, rfl⟩
    refine ⟨fun σ H3 => σ = [some (.str z), some (.ref p), some (.str smallT), some (.str (st1 c)), some (.str (kn (kc c)))] ∧ H3 = H2, ?_, ?_⟩
    · refine ⟨_, rfl, _, _, rfl, rfl, _, rfl, ?_⟩
      rw [StrLaws.found_one]
      by_cases h : c ∈ cl figT
      · rw [decide_eq_true h, show kc c = 1 from if_pos h]
        exact iteT ⟨rfl, rfl⟩
      · rw [decide_eq_false h]
        by_cases h2 : c ∈ cl smallT
        · rw [if_pos h2, show kc c = 0 from kc0.mpr h2]
          exact iteF ⟨rfl, rfl⟩
        · rw [if_neg h2, show kc c = 2 from (if_neg h).trans (if_neg h2)]
          exact iteF ⟨rfl, rfl⟩
    rintro σ H3 ⟨rfl, rfl⟩
    have hpn : ∀ m, H3 p ≠ some (.tup m) := fun m e => by rw [hP] at e; cases e
    -- onto the list
    have push : ∀ H4, Same H3 H4 → ∀ t, H4 t = none → ¬ (∃ r u, ts = r ++ [u] ∧ kc c ≠ 2 ∧ u.1 = kc c) → Same H (upd (upd H4 t (.tup [V.str (kn (kc c)), .str (st1 c)])) p (.lst (as.map V.ref ++ [.ref t]))) ∧ PsAt (upd (upd H4 t (.tup [V.str (kn (kc c)), .str (st1 c)])) p (.lst (as.map V.ref ++ [.ref t]))) p (pstep ts c) := fun H4 s4 t ht hno => by
      have u1 := same_upd ht (.tup [V.str (kn (kc c)), .str (st1 c)])
      have hp4 := u1 _ _ (s4 _ _ hP)
      refine ⟨same_in (s1.trans (s4.trans u1)) hp, as ++ [t], by rw [upd_same, List.map_append]; rfl, ?_⟩
      have e2 : pstep ts c = ts ++ [(kc c, [c])] := by
        rcases List.eq_nil_or_concat ts with rfl | ⟨r, u, rfl⟩
        · rfl
        · rw [List.concat_eq_append, pstep_is, if_neg (fun h => hno ⟨r, u, List.concat_eq_append, h⟩)]
      rw [e2, List.map_append]
      refine MvAt.upd (fun m e => by rw [hp4] at e; cases e) ?_
      exact (hM.same (s4.trans u1)).snoc upd_same
    have lapp : ∀ H4, Same H3 H4 → (as.map V.ref).length < sizeLine := fun _ _ => by
      have := hM.len
      rw [List.length_map] at this
      rw [List.length_map, this]
      exact line3 (show ts.length ≤ 1000 by have := hfl.1; omega) (by decide)
    have shp := tk_sh ts hpt
    refine ⟨_, rfl, Nat.zero_le _, fun l hl => ?_⟩
    have s4 := same_upd hl (.lst [])
    have hlp : l ≠ p := fun e => by subst e; rw [hl] at hP; cases hP
    refine ⟨_, _, Rp.lst (SqL.of (s4 _ _ hP)) (tk_rps (hM.same s4)), Rp.lst (SqL.of upd_same) .nil, ?_, by decide +kernel, _, rfl, ?_⟩
    · unfold SeqAt.shaped
      rw [PyData.canLay0, shp.1, PyData.depth, decide_eq_true (show PyData.depthAll (ts.map fun t => PyData.tuple [.str (kn t.1), .str (stl t.2)]) + 1 ≤ 64 by have := shp.2; omega)]
      rfl
    rw [ifT, tk_eqv]
    generalize upd H3 l (.lst []) = H4 at s4 ⊢
    rcases List.eq_nil_or_concat ts with rfl | ⟨r, u, rfl⟩
    · refine iteF ⟨_, rfl, .inl ⟨rfl, _, SqL.of (s4 _ _ hP)⟩, _, rfl, _, rfl, le2, fun t ht => ?_⟩
      obtain ⟨g1, g2⟩ := push H4 s4 t ht (fun ⟨r, u, e, _⟩ => by cases r <;> cases e)
      exact ⟨p, _, _, rfl, rfl, same_upd ht _ _ _ (s4 _ _ hP), lapp H4 s4, _, _, rfl, g1, g2⟩
    · rw [List.concat_eq_append] at hM hpt hfl push shp ⊢
      have hu := hpt u (by simp)
      obtain ⟨bs, a, ea, ha, hb⟩ := MvAt.last (ms := r.map tkV) (m := tkV u) (by rw [List.map_append] at hM; exact hM)
      rw [show (!(r ++ [u]).isEmpty) = true by simp]
      refine iteT ⟨_, rfl, rfl, _, rfl, ?_⟩
      rw [decS]
      have app : ¬ (kc c ≠ 2 ∧ u.1 = kc c) → ∀ t, H4 t = none → Same H (upd (upd H4 t (.tup [V.str (kn (kc c)), .str (st1 c)])) p (.lst (as.map V.ref ++ [.ref t]))) ∧ PsAt (upd (upd H4 t (.tup [V.str (kn (kc c)), .str (st1 c)])) p (.lst (as.map V.ref ++ [.ref t]))) p (pstep (r ++ [u]) c) := fun h t ht => push H4 s4 t ht (fun ⟨r', u', e, h'⟩ => by
        have := List.append_inj' e rfl
        have e2 : u = u' := by simpa using this.2
        rw [← e2] at h'
        exact h h')
      by_cases hk2 : kc c = 2
      · rw [decide_eq_true (show kn (kc c) = "other" by rw [hk2]; rfl)]
        refine iteF (iteF ⟨_, rfl, .inl ⟨rfl, _, SqL.of (s4 _ _ hP)⟩, _, rfl, _, rfl, le2, fun t ht => ?_⟩)
        obtain ⟨g1, g2⟩ := app (fun h => h.1 hk2) t ht
        exact ⟨p, _, _, rfl, rfl, same_upd ht _ _ _ (s4 _ _ hP), lapp H4 s4, _, _, rfl, g1, g2⟩
      · rw [decide_eq_false (show ¬ kn (kc c) = "other" from fun e => hk2 ((kn_inj (kc_le c) (by decide : 2 ≤ 2)).mp (e.trans rfl)))]
        have hat : atI (as.map V.ref) (-1) = some (.ref a) := by
          rw [ea, List.map_append]
          exact atI_last _ _
        refine iteT ⟨_, rfl, _, rfl, p, _, _, _, rfl, rfl, SqL.of (s4 _ _ hP), hat, a, _, 0, .str (kn u.1), rfl, rfl, SqT.of (s4 _ _ ha), rfl, _, rfl, rfl, _, rfl, ?_⟩
        rw [decS]
        by_cases hku : u.1 = kc c
        · rw [decide_eq_true (show kn u.1 = kn (kc c) by rw [hku])]
          refine iteT ?_
          have lpu : (stl u.2).length + (st1 c).length ≤ sizeLine := by
            have h1 := hfl.2 u (by simp)
            have : (st1 c).length = 1 := rfl
            rw [stl_len]
            exact Nat.le_of_lt (line3 (show _ ≤ 1500 by omega) (by decide))
          refine ⟨_, rfl, _, rfl, _, rfl, p, _, _, _, rfl, rfl, SqL.of (s4 _ _ hP), hat, a, _, 1, .str (stl u.2), rfl, rfl, SqT.of (s4 _ _ ha), rfl, _, rfl, _, _, rfl, rfl, lpu, le2, fun t ht => ?_⟩
          have u1 := same_upd ht (.tup [V.str (kn (kc c)), .str (stl u.2 ++ st1 c)])
          have hp5 := u1 _ _ (s4 _ _ hP)
          have hix : ixN (as.map V.ref).length (-1) = some bs.length := by
            rw [ea, List.map_append, List.length_append, List.length_map]
            exact ix_last bs.length
          refine ⟨_, rfl, _, rfl, p, _, _, bs.length, rfl, rfl, hp5, hix, _, _, rfl, same_in (s1.trans (s4.trans u1)) hp, bs ++ [t], ?_, ?_⟩
          · rw [upd_same, ea]
            simp
          · rw [pstep_is, if_pos ⟨hk2, hku⟩, List.map_append]
            refine MvAt.upd (fun m e => by rw [hp5] at e; cases e) ?_
            refine (hb.same (s4.trans u1)).snoc ?_
            rw [upd_same]
            show some (HO.tup [V.str (kn (kc c)), .str (stl u.2 ++ st1 c)]) = some (.tup [V.str (kn (kc c)), .str (stl (u.2 ++ [c]))])
            have : stl u.2 ++ st1 c = stl (u.2 ++ [c]) := by
              apply Str.ext'
              show (u.2.toArray ++ #[c]) = (u.2 ++ [c]).toArray
              simp
            rw [this]
        · rw [decide_eq_false (fun e => hku ((kn_inj hu.k (kc_le c)).mp e))]
          refine iteF ⟨_, rfl, .inl ⟨rfl, _, SqL.of (s4 _ _ hP)⟩, _, rfl, _, rfl, le2, fun t ht => ?_⟩
          obtain ⟨g1, g2⟩ := app (fun h => hku h.2) t ht
          exact ⟨p, _, _, rfl, rfl, same_upd ht _ _ _ (s4 _ _ hP), lapp H4 s4, _, _, rfl, g1, g2⟩
  · rintro σ H1 ⟨o1, o2, rfl, s1, ps⟩
    rw [List.take_length, fold_tk] at ps
    exact ⟨_, rfl, q p H1 s1 ps⟩
/-! ### _law_refused -/
noncomputable def spRefused : Sp := fun vs H Q _ => ∃ z : Str, vs = [.str z] ∧ z.length ≤ 1000 ∧ (∀ c ∈ cl z, c < 16 ^ 8) ∧ ∀ H', Same H H' → Q (.bl (exprD z).isNone) H'
theorem scRefused : FnScope ["word", "refused"] ["word"] (defScope sRefused) := ⟨rfl, rfl, rfl, by decide +kernel, rfl, by decide +kernel, by decide +kernel⟩
theorem ok_refused (C : CatchC K mg "NoRow" CN) (hs : PySem.W.mroIn K CN (.ref CN) = some true) (FE : Fn P w K mg base "expression" 27 ["word"] (spExpr K CN)) (F : Fun K "_law_refused" "_law_refused" sRefused f fd') : FnOk P w K mg base (CX1 P w) 28 f fd' ["word"] spRefused := by
  have nd := scRefused.nd
  refine F.ok1 scRefused (fun vs H Q E h => ?_) (fun cdv A outer s H vs Q E hr h => ?_)
  · obtain ⟨z, rfl, _⟩ := h
    rfl
  obtain ⟨z, rfl, hz, hc, q⟩ := h
  obtain ⟨fe, de, oke, ge, ke, be⟩ := FE.ex
  refine ⟨_, (pss_cons (ps_set (i := 1) nd rfl (Or.inl rfl) pe_bl)
    (pss_cons (ps_tryBare rfl rfl rfl (px_call oke hr rfl ge ke be .nil (fun _ => pa_cons (pv 0) pa_nil)) C rfl (fun _ => (pss_one (ps_set (i := 1) nd rfl (Or.inl rfl) pe_bl))))
    (pss_one (ps_ret (pv 1))))), ?_⟩
  refine ⟨_, rfl, z, rfl, hz, hc, ?_⟩
  cases he : exprD z with
  | some e =>
    rw [he] at q
    intro v H1 s1 _
    exact ⟨_, rfl, q _ s1⟩
  | none =>
    rw [he] at q
    intro H1 s1
    exact ⟨⟨CN, rfl, hs⟩, _, rfl, q _ s1⟩
end
end Car

set_option maxHeartbeats 4000000
namespace Car
open PySem L2
theorem le14 : 14 ≤ sizeLine := by decide
section
variable {P : Program} {w : World} {K : PySem.W.Frag} {mg : Str → Option Value} {base : Heap} {f CN : Addr} {fd' : FuncData}
noncomputable def spGoodF : Sp := fun vs H Q _ => ∃ t : Tk, vs = tkV t ∧ Pt t ∧ t.2.length ≤ 1000 ∧ ∀ H', Same H H' → Q (.bl (gf t.1 t.2)) H'
theorem scGoodF : FnScope ["kind", "part", "barred"] ["kind", "part"] (defScope sGoodF) := ⟨rfl, rfl, rfl, by decide +kernel, rfl, by decide +kernel, by decide +kernel⟩
theorem ok_goodF (T : LawT mg) (F : Fun K "_law_good_factor" "_law_good_factor" sGoodF f fd') : FnOk P w K mg base (CX1 P w) 1 f fd' ["kind", "part"] spGoodF := by
  have nd := scGoodF.nd
  refine F.ok1 scGoodF (fun vs H Q E h => ?_) (fun cdv A outer s H vs Q E hr h => ?_)
  · obtain ⟨t, rfl, _⟩ := h
    rfl
  obtain ⟨⟨k, p⟩, rfl, pt, hl, q⟩ := h
  have hl0 : p.length ≤ 1000 := hl
  have hl' : (stl p).length ≤ sizeLine := Nat.le_of_lt (line3 (show _ ≤ 1000 by rw [stl_len]; exact hl0) (by decide))
  have hk : k ≤ 2 := pt.k
  refine ⟨_, (pss_cons (ps_set (i := 2) nd rfl (Or.inl rfl) (pe_lst (pa_cons pe_str (pa_cons pe_str (pa_cons pe_str (pa_cons pe_str (pa_cons pe_str (pa_cons pe_str (pa_cons pe_str (pa_cons pe_str (pa_cons pe_str (pa_cons pe_str (pa_cons pe_str (pa_cons pe_str (pa_cons pe_str (pa_cons pe_str pa_nil))))))))))))))))
    (pss_cons (ps_if (pt_cmpR op_eq (pv 0) pe_str (nomark _)) (pss_one (ps_ret (pe_and (pe_cmpR op_le (pe_callB call_len_str rfl T.len PySem.boot_len (pa_cons (pv 1) pa_nil)) pe_int (nomark _)) (pe_one (pe_cmpR op_notIn_seq (pv 1) (pv 2) (by with_unfolding_all rfl)))))) pss_nil)
    (pss_one (ps_ret (pe_and (pe_cmpR op_eq (pv 0) pe_str (nomark _)) (pe_and (pe_cmpR op_le (pe_callB call_len_str rfl T.len PySem.boot_len (pa_cons (pv 1) pa_nil)) pe_int (nomark _)) (pe_one (pe_or (pe_cmpR op_eq (pv 1) pe_str (nomark _)) (pe_one (pe_cmpR op_ne (pe_ix ix_str (pv 1) pe_int (fun _ _ => rfl)) pe_str (nomark _))))))))))), ?_⟩
  refine ⟨le14, fun a ha => ?_⟩
  have s1 := same_upd ha (.lst (keptW.map V.str))
  have e0 : ∀ j : Nat, j ≤ 2 → decide (kn k = kn j) = decide (k = j) := fun j hj => by
    by_cases h : k = j
    · rw [decide_eq_true h, decide_eq_true (by rw [h])]
    · rw [decide_eq_false h, decide_eq_false fun e => h ((kn_inj hk hj).mp e)]
  refine ⟨_, rfl, rfl, _, rfl, ?_⟩
  rw [decS, show ("letter" : Str) = kn 0 from rfl, e0 0 (by decide)]
  by_cases h0 : k = 0
  · rw [decide_eq_true h0]
    have e : gf k p = (decide (p.length ≤ 8) && !inV (.str (stl p)) (keptW.map V.str)) := if_pos h0
    rw [show gf (k, p).1 (k, p).2 = gf k p from rfl, e] at q
    refine iteT ⟨_, rfl, stl p, rfl, hl', _, _, rfl, rfl, _, rfl, ?_⟩
    by_cases c : ((stl p).length : Int) ≤ 8
    · rw [decide_eq_true c]
      rw [decide_eq_true (show p.length ≤ 8 by rw [stl_len] at c; omega), Bool.true_and] at q
      exact iteT ⟨_, rfl, _, rfl, a, _, rfl, .inl (SqL.of upd_same), rfl, kept_flat, q _ s1⟩
    · rw [decide_eq_false c]
      rw [decide_eq_false (show ¬ p.length ≤ 8 by rw [stl_len] at c; omega), Bool.false_and] at q
      exact iteF (q _ s1)
  · rw [decide_eq_false h0]
    have e : gf k p = (decide (k = 1) && (decide (p.length ≤ 6) && (decide (p = [48]) || decide (p.head? ≠ some 48)))) := if_neg h0
    rw [show gf (k, p).1 (k, p).2 = gf k p from rfl, e] at q
    refine iteF ⟨_, rfl, rfl, _, rfl, ?_⟩
    rw [decS, show ("figure" : Str) = kn 1 from rfl, e0 1 (by decide)]
    by_cases h1 : k = 1
    · rw [decide_eq_true h1]
      rw [decide_eq_true h1, Bool.true_and] at q
      refine iteT ⟨_, rfl, stl p, rfl, hl', _, _, rfl, rfl, _, rfl, ?_⟩
      by_cases c : ((stl p).length : Int) ≤ 6
      · rw [decide_eq_true c]
        rw [decide_eq_true (show p.length ≤ 6 by rw [stl_len] at c; omega), Bool.true_and] at q
        refine iteT ⟨_, rfl, rfl, _, rfl, ?_⟩
        rw [decS]
        by_cases c2 : p = [48]
        · rw [decide_eq_true (show stl p = "0" by rw [c2]; exact zero_is.symm)]
          rw [decide_eq_true c2, Bool.true_or] at q
          exact iteT (q _ s1)
        · rw [decide_eq_false (show ¬ stl p = "0" from fun e => c2 (stl_eq.mp (e.trans zero_is)))]
          rw [decide_eq_false c2, Bool.false_or] at q
          obtain ⟨d, r, rfl⟩ : ∃ d r, p = d :: r := by
            cases p with
            | nil => exact absurd rfl pt.ne
            | cons d r => exact ⟨d, r, rfl⟩
          refine iteF ⟨_, rfl, stl (d :: r), 0, d, rfl, rfl, hl', (show atI _ ((0 : Nat) : Int) = _ from atI_nat (by simp)), rfl, ?_⟩
          rw [decS, one_zero]
          have e3 : decide ((d :: r).head? ≠ some 48) = !decide (d = 48) := by
            by_cases h : d = 48
            · subst h; rfl
            · rw [decide_eq_false h, decide_eq_true (show (d :: r).head? ≠ some 48 from fun z => h (by simpa using z))]
              rfl
          rw [e3] at q
          exact q _ s1
      · rw [decide_eq_false c]
        rw [decide_eq_false (show ¬ p.length ≤ 6 by rw [stl_len] at c; omega), Bool.false_and] at q
        exact iteF (q _ s1)
    · rw [decide_eq_false h1]
      rw [decide_eq_false h1, Bool.false_and] at q
      exact iteF (q _ s1)
/-! ### _law_good -/
noncomputable def spGood : Sp := fun vs H Q _ => ∃ z : Str, vs = [.str z] ∧ z.length ≤ 1000 ∧ (∀ c ∈ cl z, c < 128) ∧ ∀ H', Same H H' → Q (.bl (gA 0 true (tk (cl z)) && decide (z.length ≤ 60))) H'
theorem scGood : FnScope ["word", "deep", "due", "kind", "part"] ["word"] (defScope sGood) := ⟨rfl, rfl, rfl, by decide +kernel, rfl, by decide +kernel, by decide +kernel⟩
theorem ps_get {H : Hp} : ∀ {as : List Addr} {ts : List Tk} {i : Nat} {x : V}, MvAt H as (ts.map tkV) → (as.map V.ref)[i]? = some x → ∃ a t r, x = .ref a ∧ H a = some (.tup (tkV t)) ∧ ts.drop i = t :: r ∧ ts.drop (i + 1) = r ∧ t ∈ ts
  | [], _, _, _, _, h => by simp at h
  | _ :: _, [], _, _, h, _ => by cases h
  | a :: as, t :: ts, 0, x, h, hx => by
    have e : x = .ref a := by simpa using hx.symm
    exact ⟨a, t, ts, e, h.1, rfl, rfl, List.mem_cons_self⟩
  | a :: as, t :: ts, i + 1, x, h, hx => by
    obtain ⟨b, u, r, h1, h2, h3, h4, h5⟩ := ps_get (i := i) h.2 (by simpa using hx)
    exact ⟨b, u, r, h1, h2, h3, h4, List.mem_cons_of_mem _ h5⟩
theorem stl_1 {p : List Nat} {c : Nat} {x : Str} (hx : x.cps = #[c]) : (stl p = x) ↔ p = [c] := by
  have e : x = stl [c] := by
    apply Str.ext'
    rw [hx]
  rw [e]
  exact stl_eq
theorem ok_good (T : LawT mg) (FP : Fn P w K mg base "_law_parts" 1 ["word"] spParts) (FF : Fn P w K mg base "_law_good_factor" 1 ["kind", "part"] spGoodF) (F : Fun K "_law_good" "_law_good" sGood f fd') : FnOk P w K mg base (CX1 P w) 2 f fd' ["word"] spGood := by
  have nd := scGood.nd
  refine F.ok1 scGood (fun vs H Q E h => ?_) (fun cdv A outer s H vs Q E hr h => ?_)
  · obtain ⟨z, rfl, _⟩ := h
    rfl
  obtain ⟨z, rfl, hz, hlt, q⟩ := h
  have hz' : z.length ≤ sizeLine := Nat.le_of_lt (line3 hz (by decide))
  refine ⟨_, (pss_cons (ps_set (i := 1) nd rfl (Or.inl rfl) pe_int)
    (pss_cons (ps_set (i := 2) nd rfl (Or.inl rfl) pe_bl)
    (pss_cons (ps_for own1 rfl (pi_list (pf_call FP hr rfl (pass1 (E := E)) (pa_cons (pv 0) pa_nil))) (pg_tup rfl (pgs_cons (pg_name (i := 3) nd rfl (Or.inl rfl)) (pgs_cons (pg_name (i := 4) nd rfl (Or.inl rfl)) pgs_nil))) (pss_mid (ps_if (PW.pt (pw_and (pt_truth (pv 2) (fun _ => rfl)) (pw_and1 (pt_cmpR op_eq (pv 4) pe_str (nomark _))))) (pss_one (ps_set (i := 1) nd rfl (Or.inl rfl) (pe_op op_add (pv 1) pe_int))) (pss_one (ps_if (pt_truth (pv 2) (fun _ => rfl)) (pss_cons (ps_if (pt_not (pt_truth (pf_call FF hr rfl (pass1 (E := E)) (pa_cons (pv 3) (pa_cons (pv 4) pa_nil))) (fun _ => rfl))) (pss_one (ps_ret pe_bl)) pss_nil)
    (pss_one (ps_set (i := 2) nd rfl (Or.inl rfl) pe_bl))) (pss_one (ps_if (pt_cmpR op_eq (pv 4) pe_str (nomark _)) (pss_one (ps_set (i := 1) nd rfl (Or.inl rfl) (pe_op op_sub (pv 1) pe_int))) (pss_one (ps_if (pt_cmpR op_in_seq (pv 4) (pe_lst (pa_cons pe_str (pa_cons pe_str (pa_cons pe_str pa_nil)))) (by with_unfolding_all rfl)) (pss_one (ps_set (i := 2) nd rfl (Or.inl rfl) pe_bl)) (pss_one (ps_ret pe_bl)))))))))
    (pss_one (ps_if (PW.pt (pw_or (pt_cmpR op_lt (pv 1) pe_int (nomark _)) (pw_or1 (pt_cmpR op_gt (pv 1) pe_int (nomark _))))) (pss_one (ps_ret pe_bl)) pss_nil))))
    (pss_one (ps_ret (pe_and (pe_cmpR op_eq (pv 1) pe_int (nomark _)) (pe_and (pe_not (pv 2)) (pe_one (pe_cmpR op_le (pe_callB call_len_str rfl T.len PySem.boot_len (pa_cons (pv 0) pa_nil)) pe_int (nomark _)))))))))), ?_⟩
  refine ⟨_, rfl, z, rfl, hz, hlt, fun p H1 s1 ps => ?_⟩
  obtain ⟨as, hP, hM⟩ := ps
  have hpt := fold_pt (cl z) [] hlt (fun t ht => by cases ht)
  have hfl := (fold_len (cl z) [] 0 (Nat.zero_le _) (fun t ht => by cases ht)).2
  rw [fold_tk] at hpt hfl
  have htl : (cl z).length ≤ 1000 := by rw [len_cl]; exact hz
  generalize hG : gA 0 true (tk (cl z)) = G at q
  generalize tk (cl z) = ts at hM hpt hfl hG
  have hlen : as.length = ts.length := by have := hM.len; rwa [List.length_map] at this
  have no : G = false → ∀ H', Same H H' → Q (.bl false) H' := fun g H' s => by
    rw [g, Bool.false_and] at q
    exact q H' s
  refine ⟨p, rfl, ⟨_, SqL.of hP⟩, ?_⟩
  refine for_list (K := K) (a := p) (xs := as.map V.ref) (fun i σ Hc => ∃ (d : Nat) (due : Bool) (o1 o2 : Option V), σ = [some (.str z), some (.int d), some (.bl due), o1, o2] ∧ Same H1 Hc ∧ d ≤ 5 ∧ gA d due (ts.drop i) = G) ⟨0, true, none, none, rfl, Same.refl _, by decide, hG⟩ (fun i σ Hc _ ⟨_, _, _, _, _, s, _⟩ => SqL.of (s _ _ hP)) ?_ ?_
  · rintro i x σ Hc hx ⟨d, due, o1, o2, rfl, s2, hd, hg⟩
    obtain ⟨a, t, r, rfl, ha, hdr, hdr1, htm⟩ := ps_get (hM.same s2) hx
    have pt := hpt t htm
    have tl := hfl t htm
    rw [hdr] at hg
    rw [hdr1]
    have hs := s1.trans s2
    refine ⟨_, _, rfl, SqT.of ha, rfl, _, _, rfl, _, _, rfl, rfl, ?_⟩
    refine ⟨fun σ H3 => ∃ (d' : Int) (due' : Bool), σ = [some (.str z), some (.int d'), some (.bl due'), some (.str (kn t.1)), some (.str (stl t.2))] ∧ Same H1 H3 ∧ (0 ≤ d' ∧ d' ≤ 5 → gA d'.toNat due' r = G) ∧ (¬ (0 ≤ d' ∧ d' ≤ 5) → G = false), ?_, ?_⟩
    · refine ⟨_, rfl, _, rfl, ?_⟩
      cases due with
      | true =>
        have hg' : (if t.2 = [40] then decide (d < 5) && gA (d + 1) true r else gf t.1 t.2 && gA d false r) = G := hg
        refine iteT ⟨_, rfl, rfl, _, rfl, ?_⟩
        rw [decS]
        by_cases h40 : t.2 = [40]
        · rw [decide_eq_true ((stl_1 c_open).mpr h40)]
          rw [if_pos h40] at hg'
          refine iteT ⟨_, rfl, _, _, rfl, rfl, _, true, rfl, s2, fun h => ?_, fun h => ?_⟩
          · rw [← hg', decide_eq_true (show d < 5 by omega), Bool.true_and, show ((d : Int) + 1).toNat = d + 1 by omega]
          · rw [← hg', decide_eq_false (show ¬ d < 5 by omega), Bool.false_and]
        · rw [decide_eq_false (fun e => h40 ((stl_1 c_open).mp e))]
          rw [if_neg h40] at hg'
          refine iteF ⟨_, rfl, _, rfl, iteT ⟨_, rfl, _, rfl, t, rfl, pt, by omega, fun H3 s3 => ⟨_, rfl, ?_⟩⟩⟩
          cases hgf : gf t.1 t.2 with
          | false =>
            refine iteT (no ?_ _ (hs.trans s3))
            rw [← hg', hgf, Bool.false_and]
          | true =>
            refine iteF ⟨(d : Int), false, rfl, s2.trans s3, fun h => ?_, fun h => absurd ⟨by omega, by omega⟩ h⟩
            rw [← hg', hgf, Bool.true_and, Int.toNat_natCast]
      | false =>
        have hg' : (if t.2 = [41] then decide (0 < d) && gA (d - 1) false r else if t.2 = [43] ∨ t.2 = [45] ∨ t.2 = [42] then gA d true r else false) = G := hg
        refine iteF (iteF ⟨_, rfl, _, rfl, iteF ⟨_, rfl, rfl, _, rfl, ?_⟩⟩)
        rw [decS]
        by_cases h41 : t.2 = [41]
        · rw [decide_eq_true ((stl_1 c_close).mpr h41)]
          rw [if_pos h41] at hg'
          refine iteT ⟨_, rfl, _, _, rfl, rfl, _, false, rfl, s2, fun h => ?_, fun h => ?_⟩
          · rw [← hg', decide_eq_true (show 0 < d by omega), Bool.true_and, show ((d : Int) - 1).toNat = d - 1 by omega]
          · rw [← hg', decide_eq_false (show ¬ 0 < d by omega), Bool.false_and]
        · rw [decide_eq_false (fun e => h41 ((stl_1 c_close).mp e))]
          rw [if_neg h41] at hg'
          refine iteF ⟨_, rfl, le3, fun l hl => ⟨l, _, rfl, .inl (SqL.of upd_same), rfl, rfl, _, rfl, ?_⟩⟩
          have s3 := same_upd hl (.lst [V.str "+", .str "-", .str "*"])
          rw [ifF, in3]
          have eb : (decide (stl t.2 = "+") || (decide (stl t.2 = "-") || decide (stl t.2 = "*"))) = decide (t.2 = [43] ∨ t.2 = [45] ∨ t.2 = [42]) := by
            have e1 := stl_1 (p := t.2) c_plus
            have e2 := stl_1 (p := t.2) c_minus
            have e3 := stl_1 (p := t.2) c_star
            rw [Bool.eq_iff_iff, Bool.or_eq_true, Bool.or_eq_true, decide_eq_true_iff, decide_eq_true_iff, decide_eq_true_iff, decide_eq_true_iff]
            exact or_congr e1 (or_congr e2 e3)
          rw [eb]
          by_cases ho : t.2 = [43] ∨ t.2 = [45] ∨ t.2 = [42]
          · rw [decide_eq_true ho]
            rw [if_pos ho] at hg'
            refine iteT ⟨(d : Int), true, rfl, s2.trans s3, fun h => ?_, fun h => absurd ⟨by omega, by omega⟩ h⟩
            rw [Int.toNat_natCast]
            exact hg'
          · rw [decide_eq_false ho]
            rw [if_neg ho] at hg'
            exact iteF (no hg'.symm _ (hs.trans s3))
    rintro σ H3 ⟨d', due', rfl, s3, hin, hout⟩
    refine ⟨_, rfl, _, _, rfl, rfl, _, rfl, ?_⟩
    by_cases c1 : d' < 0
    · rw [decide_eq_true c1]
      exact iteT (iteT (no (hout (by omega)) _ (s1.trans s3)))
    · rw [decide_eq_false c1]
      refine iteF ⟨_, rfl, _, _, rfl, rfl, _, rfl, ?_⟩
      by_cases c2 : d' > 5
      · rw [decide_eq_true c2]
        exact iteT (no (hout (by omega)) _ (s1.trans s3))
      · rw [decide_eq_false c2]
        refine iteF ⟨d'.toNat, due', some (.str (kn t.1)), some (.str (stl t.2)), ?_, s3, by omega, hin ⟨by omega, by omega⟩⟩
        rw [Int.toNat_of_nonneg (by omega)]
  · rintro σ H2 ⟨d, due, o1, o2, rfl, s2, hd, hg⟩
    rw [List.length_map, hlen, List.drop_length] at hg
    have hg' : (decide (d = 0) && !due) = G := hg
    rw [← hg'] at q
    have hs := s1.trans s2
    refine ⟨_, rfl, rfl, _, rfl, ?_⟩
    rw [decI]
    by_cases c0 : d = 0
    · subst c0
      rw [decide_eq_true (show ((0 : Nat) : Int) = 0 from rfl)]
      rw [decide_eq_true (show (0 : Nat) = 0 from rfl), Bool.true_and] at q
      refine iteT ⟨_, rfl, _, rfl, _, rfl, ?_⟩
      cases due with
      | true => exact iteF (q _ hs)
      | false =>
        refine iteT ⟨_, rfl, z, rfl, hz', _, _, rfl, rfl, ?_⟩
        have e : decide (((z.length : Nat) : Int) ≤ 60) = decide (z.length ≤ 60) := by
          by_cases h : z.length ≤ 60
          · rw [decide_eq_true h, decide_eq_true (by omega)]
          · rw [decide_eq_false h, decide_eq_false (by omega)]
        show Q (.bl (decide (((z.length : Nat) : Int) ≤ 60))) H2
        rw [e]
        exact q _ hs
    · rw [decide_eq_false (show ¬ ((d : Nat) : Int) = 0 by omega)]
      rw [decide_eq_false c0, Bool.false_and, Bool.false_and] at q
      exact iteF (q _ hs)
/-! ### law -/
theorem int_of {ms : List Int} {i : Nat} {x : V} (h : (ms.map V.int)[i]? = some x) : ∃ z, x = .int z := by
  rw [List.getElem?_map] at h
  cases hm : ms[i]? with
  | none => rw [hm] at h; cases h
  | some z => rw [hm] at h; cases h; exact ⟨z, rfl⟩
theorem leaf_lt {t : List Nat} {e : Ex} (h : leafA t = some e) : ∀ c ∈ t, c < 128 := by
  have h1 : (cl smallT).all (fun c => decide (c < 128)) = true := by decide +kernel
  have h2 : (cl figT).all (fun c => decide (c < 128)) = true := by decide +kernel
  rcases leaf_kc h with q | q
  · exact fun c hc => of_decide_eq_true (List.all_eq_true.mp h1 c (kc0.mp (q c hc)))
  · exact fun c hc => of_decide_eq_true (List.all_eq_true.mp h2 c (kc1.mp (q c hc)))
theorem wf_lt : ∀ w : Wf, w.ok → ∀ c ∈ w.tx, c < 128
  | .leaf t e, h => leaf_lt h
  | .brk w, h => fun c hc => by
    have hc' : c ∈ 40 :: (w.tx ++ [41]) := hc
    rcases List.mem_cons.mp hc' with rfl | hc
    · decide
    rcases List.mem_append.mp hc with hc | hc
    · exact wf_lt w h c hc
    · rw [List.mem_singleton.mp hc]
      decide
  | .bin s a b, h => fun c hc => by
    obtain ⟨hs, ha, hb⟩ := h
    have hc' : c ∈ a.tx ++ s :: b.tx := hc
    rcases List.mem_append.mp hc' with hc | hc
    · exact wf_lt a ha c hc
    rcases List.mem_cons.mp hc with rfl | hc
    · rcases hs with ⟨rfl, _⟩ | ⟨rfl | rfl, _⟩ <;> decide
    · exact wf_lt b hb c hc
noncomputable def spLaw (K : PySem.W.Frag) : Sp := fun vs H Q _ => ∃ (a : Addr) (ns : List Int), vs = [.ref a] ∧ SqL K H a (ns.map V.int) ∧ ns.length ≤ 63 ∧ ∀ H', Q (.bl true) H'
theorem scLaw : FnScope ["script", "cell", "word"] ["script"] (defScope sLaw) := ⟨rfl, rfl, rfl, by decide +kernel, rfl, by decide +kernel, by decide +kernel⟩
theorem eqB (a b : Bool) : decide (V.bl a = V.bl b) = decide (a = b) := by
  by_cases h : a = b
  · rw [decide_eq_true h, decide_eq_true (by rw [h])]
  · rw [decide_eq_false h, decide_eq_false (fun z => h (by injection z))]
theorem ok_law (T : LawT mg) (FS : Fn P w K mg base "_law_stir" 1 ["cell", "k"] spStir) (FT : Fn P w K mg base "_law_tree" 4 ["cell", "k", "deep"] (spTree K 2)) (FW : Fn P w K mg base "_law_worded" 3 ["tree", "more"] (spWorded K 2)) (FSp : Fn P w K mg base "_law_spoilt" 2 ["word", "cell", "k"] spSpoilt) (FR : Fn P w K mg base "_law_refused" 28 ["word"] spRefused) (FG : Fn P w K mg base "_law_good" 2 ["word"] spGood) (F : Fun K "law" "law" sLaw f fd') :
    FnOk P w K mg base (CX1 P w) 29 f fd' ["script"] (spLaw K) := by
  have nd := scLaw.nd
  refine F.ok1 scLaw (fun vs H Q E h => ?_) (fun cdv A outer s H vs Q E hr h => ?_)
  · obtain ⟨a, ns, rfl, _⟩ := h
    rfl
  obtain ⟨a, ns, rfl, hS, hn, q⟩ := h
  have hr1 : Room 1 _ := hr.mono (by decide)
  have hr2 : Room 2 _ := hr.mono (by decide)
  have hr3 : Room 3 _ := hr.mono (by decide)
  have hr4 : Room 4 _ := hr.mono (by decide)
  refine ⟨_, (pss_cons (ps_for own1 rfl (pi_list (pe_slice sl_list (pv 0) po_none (po_some pe_int))) (pg_name (i := 1) nd rfl (Or.inl rfl)) (pss_cons (ps_set (i := 2) nd rfl (Or.inl rfl) (pf_call FSp hr2 rfl (pass1 (E := E)) (pa_cons (pf_call FW hr3 rfl (pass1 (E := E)) (pa_cons (pf_call FT hr4 rfl (pass1 (E := E)) (pa_cons (pv 1) (pa_cons pe_int (pa_cons pe_int pa_nil)))) (pa_cons pe_int pa_nil))) (pa_cons (pv 1) (pa_cons pe_int pa_nil)))))
    (pss_mid (ps_if (pt_cmpR op_eq (pe_op op_mod (pf_call FS hr1 rfl (pass1 (E := E)) (pa_cons (pv 1) (pa_cons pe_int pa_nil))) pe_int) pe_int (nomark _)) (pss_one (ps_set (i := 2) nd rfl (Or.inl rfl) (pf_call FSp hr2 rfl (pass1 (E := E)) (pa_cons (pv 2) (pa_cons (pv 1) (pa_cons pe_int pa_nil)))))) pss_nil)
    (pss_one (ps_if (pt_cmpR op_eq (pf_call FR hr rfl (pass1 (E := E)) (pa_cons (pv 2) pa_nil)) (pf_call FG hr2 rfl (pass1 (E := E)) (pa_cons (pv 2) pa_nil)) (nomark _)) (pss_one (ps_ret pe_bl)) pss_nil)))))
    (pss_one (ps_ret pe_bl))), ?_⟩
  refine ⟨_, rfl, 63, rfl, a, _, rfl, hS, fun p hp => ⟨p, rfl, ⟨_, SqL.of upd_same⟩, ?_⟩⟩
  obtain ⟨ms, hms⟩ : ∃ ms : List Int, cutV (ns.map V.int) none (some 63) = ms.map V.int := by
    refine ⟨(ns.drop (HT.sIx (ns.map V.int).length 0 none)).take (HT.sIx (ns.map V.int).length (ns.map V.int).length (some 63) - HT.sIx (ns.map V.int).length 0 none), ?_⟩
    unfold cutV
    rw [← List.map_drop, ← List.map_take]
  have hP : upd H p (.lst (cutV (ns.map V.int) none (some 63))) p = some (.lst (ms.map V.int)) := by rw [upd_same, hms]
  generalize upd H p (.lst (cutV (ns.map V.int) none (some 63))) = H1 at hP ⊢
  refine for_list (K := K) (a := p) (xs := ms.map V.int) (fun i σ Hc => ∃ g1 g2, σ = [some (.ref a), g1, g2] ∧ Same H1 Hc) ⟨_, _, rfl, Same.refl _⟩ (fun i σ Hc _ ⟨_, _, _, s⟩ => SqL.of (s _ _ hP)) ?_ ?_
  · rintro i x σ Hc hx ⟨g1, g2, rfl, s1⟩
    obtain ⟨cell, rfl⟩ := int_of hx
    refine ⟨_, rfl, cell, 1, rfl, by decide, by decide, fun e v H2 de te ne s2 re => ⟨v, e, 0, rfl, re, de, te, by have : e.nd < 8 := ne; omega, fun z H3 hz s3 => ?_⟩⟩
    have w1 := wf_ok e 0 de
    have lz : z.length ≤ 96 := by rw [← len_cl, hz]; have := w1.2.2; have : e.nd < 8 := ne; omega
    have az : As 450 z := ⟨by omega, fun c hc => wf_lt _ w1.1 c (by rw [← hz]; exact hc)⟩
    refine ⟨_, rfl, z, cell, 50, rfl, by decide, by decide, az, fun z1 H4 a1 s4 => ?_⟩
    have a1' : As 410 z1 := a1.mono (by omega)
    have s5 := s1.trans (s2.trans (s3.trans s4))
    refine ⟨fun σ H5 => ∃ y : Str, σ = [some (.ref a), some (.int cell), some (.str y)] ∧ As 900 y ∧ Same H1 H5, ?_, ?_⟩
    · refine ⟨_, rfl, cell, 53, rfl, by decide, by decide, fun n _ _ => ⟨_, _, rfl, rfl, (by show (0 : Int) < 2; decide), rfl, _, rfl, ?_⟩⟩
      refine ite2 (fun _ => ?_) (fun _ => ?_)
      · refine ⟨_, rfl, _, rfl, z1, cell, 54, rfl, by decide, by decide, a1'.mono (by decide), fun z2 H5 a2 s6 => ⟨z2, rfl, a2.mono ?_, s5.trans s6⟩⟩
        have := a1'.1
        omega
      · exact ⟨z1, rfl, a1'.mono (by decide), s5⟩
    rintro σ H5 ⟨y, rfl, ay, s6⟩
    have hy : y.length ≤ 1000 := Nat.le_trans ay.1 (by decide)
    refine ⟨_, rfl, y, rfl, hy, fun c hc => Nat.lt_of_lt_of_le (ay.2 c hc) (by decide), fun H6 s7 => ⟨_, rfl, y, rfl, hy, ay.2, fun H7 s8 => ⟨rfl, _, rfl, ?_⟩⟩⟩
    rw [eqB, decide_eq_false (fun e => good_is y e)]
    exact iteF ⟨_, _, rfl, s6.trans (s7.trans s8)⟩
  · rintro σ H2 ⟨g1, g2, rfl, s2⟩
    exact q _
end
end Car

set_option maxHeartbeats 4000000
namespace Car
open PySem L2
structure FnT (K : PySem.W.Frag) (x : Str) (st : Stmt) (f : Addr) (fd : FuncData) : Prop where
  ns : PySem.W.nsIn K mainGlobals x = some (some (.ref f))
  fn : Fun K x x st f fd
theorem fnT_mk {K : PySem.W.Frag} {x : Str} {st : Stmt} {f : Addr} {oc : Value} {od an : Option Addr} {osl : Array (Option Value)} {kV doc pm cdv ct : Value} (a : PySem.W.nsIn K mainGlobals x = some (some (.ref f)))
    (l : K.lookup f = some ⟨oc, od, .func (PySem.W.fnOf x x (defArgs st) (defBody st) (defScope st) .none kV doc pm an cdv ct), osl⟩) (c : PySem.W.codeIn K cdv x = true) (k : PySem.W.keepIn K (.ref f) = true) : ∃ f fd, FnT K x st f fd := ⟨_, _, a, fun_mk l c k⟩
structure C_Scan (K : PySem.W.Frag) (C f0 f1 f2 f3 f4 f5 f6 f7 : Addr) (d0 d1 d2 d3 d4 d5 d6 d7 : FuncData) : Prop where
  ns : PySem.W.nsIn K mainGlobals "Scan" = some (some (.ref C))
  cl : Cls K C
  fn___init__ : Fun K "__init__" "Scan.__init__" (inClass (top 15) 0) f0 d0
  mks : Mk K C f0
  fn_sign_ahead : Fun K "sign_ahead" "Scan.sign_ahead" (inClass (top 15) 1) f1 d1
  mt_sign_ahead : Meth K C "sign_ahead" f1
  fn_take_sign : Fun K "take_sign" "Scan.take_sign" (inClass (top 15) 2) f2 d2
  mt_take_sign : Meth K C "take_sign" f2
  fn_take_terms : Fun K "take_terms" "Scan.take_terms" (inClass (top 15) 3) f3 d3
  mt_take_terms : Meth K C "take_terms" f3
  fn_take_factors : Fun K "take_factors" "Scan.take_factors" (inClass (top 15) 4) f4 d4
  mt_take_factors : Meth K C "take_factors" f4
  fn_take_factor : Fun K "take_factor" "Scan.take_factor" (inClass (top 15) 5) f5 d5
  mt_take_factor : Meth K C "take_factor" f5
  fn_take_brackets : Fun K "take_brackets" "Scan.take_brackets" (inClass (top 15) 6) f6 d6
  mt_take_brackets : Meth K C "take_brackets" f6
  fn_take_piece : Fun K "take_piece" "Scan.take_piece" (inClass (top 15) 7) f7 d7
  mt_take_piece : Meth K C "take_piece" f7
  n_word : NoAttr K C "word"
  n_at : NoAttr K C "at"
  n_brackets : NoAttr K C "brackets"
theorem C_Scan_mk {K : PySem.W.Frag} {C f0 f1 f2 f3 f4 f5 f6 f7 : Addr} {od0 an0 od1 an1 od2 an2 od3 an3 od4 an4 od5 an5 od6 an6 od7 an7 : Option Addr} {sl0 sl1 sl2 sl3 sl4 sl5 sl6 sl7 : Array (Option Value)} {oc0 kV0 dc0 pm0 cd0 ct0 oc1 kV1 dc1 pm1 cd1 ct1 oc2 kV2 dc2 pm2 cd2 ct2 oc3 kV3 dc3 pm3 cd3 ct3 oc4 kV4 dc4 pm4 cd4 ct4 oc5 kV5 dc5 pm5 cd5 ct5 oc6 kV6 dc6 pm6 cd6 ct6 oc7 kV7 dc7 pm7 cd7 ct7 : Value}
    (aC : PySem.W.nsIn K mainGlobals "Scan" = some (some (.ref C)))
    (a0 : PySem.W.findIn K (.ref C) "__init__" = some (some (.ref f0))) (i0 : PySem.W.isFn K (.ref f0) = true) (l0 : K.lookup f0 = some ⟨oc0, od0, .func (PySem.W.fnOf "__init__" "Scan.__init__" (defArgs (inClass (top 15) 0)) (defBody (inClass (top 15) 0)) (defScope (inClass (top 15) 0)) .none kV0 dc0 pm0 an0 cd0 ct0), sl0⟩) (c0 : PySem.W.codeIn K cd0 "Scan.__init__" = true) (k0 : PySem.W.keepIn K (.ref f0) = true)
    (a1 : PySem.W.findIn K (.ref C) "sign_ahead" = some (some (.ref f1))) (i1 : PySem.W.isFn K (.ref f1) = true) (l1 : K.lookup f1 = some ⟨oc1, od1, .func (PySem.W.fnOf "sign_ahead" "Scan.sign_ahead" (defArgs (inClass (top 15) 1)) (defBody (inClass (top 15) 1)) (defScope (inClass (top 15) 1)) .none kV1 dc1 pm1 an1 cd1 ct1), sl1⟩) (c1 : PySem.W.codeIn K cd1 "Scan.sign_ahead" = true) (k1 : PySem.W.keepIn K (.ref f1) = true)
    (a2 : PySem.W.findIn K (.ref C) "take_sign" = some (some (.ref f2))) (i2 : PySem.W.isFn K (.ref f2) = true) (l2 : K.lookup f2 = some ⟨oc2, od2, .func (PySem.W.fnOf "take_sign" "Scan.take_sign" (defArgs (inClass (top 15) 2)) (defBody (inClass (top 15) 2)) (defScope (inClass (top 15) 2)) .none kV2 dc2 pm2 an2 cd2 ct2), sl2⟩) (c2 : PySem.W.codeIn K cd2 "Scan.take_sign" = true) (k2 : PySem.W.keepIn K (.ref f2) = true)
    (a3 : PySem.W.findIn K (.ref C) "take_terms" = some (some (.ref f3))) (i3 : PySem.W.isFn K (.ref f3) = true) (l3 : K.lookup f3 = some ⟨oc3, od3, .func (PySem.W.fnOf "take_terms" "Scan.take_terms" (defArgs (inClass (top 15) 3)) (defBody (inClass (top 15) 3)) (defScope (inClass (top 15) 3)) .none kV3 dc3 pm3 an3 cd3 ct3), sl3⟩) (c3 : PySem.W.codeIn K cd3 "Scan.take_terms" = true) (k3 : PySem.W.keepIn K (.ref f3) = true)
    (a4 : PySem.W.findIn K (.ref C) "take_factors" = some (some (.ref f4))) (i4 : PySem.W.isFn K (.ref f4) = true) (l4 : K.lookup f4 = some ⟨oc4, od4, .func (PySem.W.fnOf "take_factors" "Scan.take_factors" (defArgs (inClass (top 15) 4)) (defBody (inClass (top 15) 4)) (defScope (inClass (top 15) 4)) .none kV4 dc4 pm4 an4 cd4 ct4), sl4⟩) (c4 : PySem.W.codeIn K cd4 "Scan.take_factors" = true) (k4 : PySem.W.keepIn K (.ref f4) = true)
    (a5 : PySem.W.findIn K (.ref C) "take_factor" = some (some (.ref f5))) (i5 : PySem.W.isFn K (.ref f5) = true) (l5 : K.lookup f5 = some ⟨oc5, od5, .func (PySem.W.fnOf "take_factor" "Scan.take_factor" (defArgs (inClass (top 15) 5)) (defBody (inClass (top 15) 5)) (defScope (inClass (top 15) 5)) .none kV5 dc5 pm5 an5 cd5 ct5), sl5⟩) (c5 : PySem.W.codeIn K cd5 "Scan.take_factor" = true) (k5 : PySem.W.keepIn K (.ref f5) = true)
    (a6 : PySem.W.findIn K (.ref C) "take_brackets" = some (some (.ref f6))) (i6 : PySem.W.isFn K (.ref f6) = true) (l6 : K.lookup f6 = some ⟨oc6, od6, .func (PySem.W.fnOf "take_brackets" "Scan.take_brackets" (defArgs (inClass (top 15) 6)) (defBody (inClass (top 15) 6)) (defScope (inClass (top 15) 6)) .none kV6 dc6 pm6 an6 cd6 ct6), sl6⟩) (c6 : PySem.W.codeIn K cd6 "Scan.take_brackets" = true) (k6 : PySem.W.keepIn K (.ref f6) = true)
    (a7 : PySem.W.findIn K (.ref C) "take_piece" = some (some (.ref f7))) (i7 : PySem.W.isFn K (.ref f7) = true) (l7 : K.lookup f7 = some ⟨oc7, od7, .func (PySem.W.fnOf "take_piece" "Scan.take_piece" (defArgs (inClass (top 15) 7)) (defBody (inClass (top 15) 7)) (defScope (inClass (top 15) 7)) .none kV7 dc7 pm7 an7 cd7 ct7), sl7⟩) (c7 : PySem.W.codeIn K cd7 "Scan.take_piece" = true) (k7 : PySem.W.keepIn K (.ref f7) = true)
    (pg : PySem.W.plainGet K C Str.empty = true) (hd : PySem.W.hasDictIn K C = true) (po : PySem.W.plainOver K C = true) (sa : PySem.W.findIn K (.ref C) "__setattr__" = some (some (.builtin "object.__setattr__"))) (mk : PySem.W.makesIn K C = true) (kc : PySem.W.keepIn K (.ref C) = true) (n0 : PySem.W.findIn K (.ref C) "word" = some none) (n1 : PySem.W.findIn K (.ref C) "at" = some none) (n2 : PySem.W.findIn K (.ref C) "brackets" = some none) :
    ∃ C f0 f1 f2 f3 f4 f5 f6 f7 d0 d1 d2 d3 d4 d5 d6 d7, C_Scan K C f0 f1 f2 f3 f4 f5 f6 f7 d0 d1 d2 d3 d4 d5 d6 d7 :=
  ⟨C, f0, f1, f2, f3, f4, f5, f6, f7, _, _, _, _, _, _, _, _, aC, ⟨pg, hd, po, sa⟩, fun_mk l0 c0 k0, ⟨mk, a0, i0, kc⟩, fun_mk l1 c1 k1, ⟨a1, i1, k1⟩, fun_mk l2 c2 k2, ⟨a2, i2, k2⟩, fun_mk l3 c3 k3, ⟨a3, i3, k3⟩, fun_mk l4 c4 k4, ⟨a4, i4, k4⟩, fun_mk l5 c5 k5, ⟨a5, i5, k5⟩, fun_mk l6 c6 k6, ⟨a6, i6, k6⟩, fun_mk l7 c7 k7, ⟨a7, i7, k7⟩, n0, n1, n2⟩
theorem byLen0 {P : List Value → Prop} (h : P []) : ∀ us : List Value, us.length = 0 → P us := fun us hl => by
  rw [List.length_eq_zero_iff.mp hl]
  exact h
theorem byLenS {n : Nat} {P : List Value → Prop} (h : ∀ (a : Value) (us : List Value), us.length = n → P (a :: us)) : ∀ us : List Value, us.length = n + 1 → P us := fun us hl => by
  cases us with
  | nil => cases hl
  | cons a r => exact h a r (Nat.succ.inj hl)
theorem byLen1 {P : List Value → Prop} (h : ∀ a0 : Value, P [a0]) : ∀ us : List Value, us.length = 1 → P us := byLenS fun a => byLen0 (P := fun us => P (a :: us)) (h a)
theorem byLen2 {P : List Value → Prop} (h : ∀ a0 a1 : Value, P [a0, a1]) : ∀ us : List Value, us.length = 2 → P us := byLenS fun a => byLen1 (P := fun us => P (a :: us)) (h a)
theorem byLen3 {P : List Value → Prop} (h : ∀ a0 a1 a2 : Value, P [a0, a1, a2]) : ∀ us : List Value, us.length = 3 → P us := byLenS fun a => byLen2 (P := fun us => P (a :: us)) (h a)
/-! ### NoRow and CarveError, as the text has them -/
noncomputable abbrev bmV : List Value := [.type "ValueError", .type "Exception", .type "BaseException", .type "object"]
structure C_Row (K : PySem.W.Frag) (CN CC : Addr) : Prop where
  ns : PySem.W.nsIn K mainGlobals "NoRow" = some (some (.ref CN))
  nc : PySem.W.nsIn K mainGlobals "CarveError" = some (some (.ref CC))
  obj : ∃ nm q N bs hd sn sub ab col dd k0 k1 k2 k3 k5, K.lookup CN = some (excClassObj nm q CN N bs (.ref CC :: bmV) hd sn sub ab col dd k0 k1 k2 k3 k5 "ValueError.__new__") ∧ PySem.W.nsOkIn K N = true ∧ PySem.W.nsIn K N "__init__" = some none
  up : ∃ nm q N bs hd sn sub ab col dd k0 k1 k2 k3 k5, K.lookup CC = some (excClassObj nm q CC N bs bmV hd sn sub ab col dd k0 k1 k2 k3 k5 "ValueError.__new__") ∧ PySem.W.nsOkIn K N = true ∧ PySem.W.nsIn K N "__init__" = some none
  cobj : ∃ dd cd sl, K.lookup CC = some ⟨.type "type", dd, .cls cd, sl⟩
  exc : PySem.W.mroIn K CC (.type "BaseException") = some true
  sub : PySem.W.mroIn K CN (.ref CC) = some true
  ek : ExcK K CN
  val : PySem.W.subIn K (.ref CN) (.type "ValueError") = some true
  self : PySem.W.mroIn K CN (.ref CN) = some true
theorem okIn_of {K : PySem.W.Frag} {N : Addr} {nc : Value} {ndd : Option Addr} {nes : Array DictEntry} {nep : Nat} {nsl : Array (Option Value)} (o2 : K.lookup N = some ⟨nc, ndd, .dict nes nep, nsl⟩) (o3 : (nes.toList.all fun e => match e.key with | .str _ _ => true | _ => false) = true) : PySem.W.nsOkIn K N = true := by
  unfold PySem.W.nsOkIn
  rw [o2]
  dsimp only
  rw [← Array.all_toList]
  exact o3
theorem C_Row_mk {K : PySem.W.Frag} {CN CC N N' : Addr} {nm q nm' q' : Str} {bs bs' : List Value} {hd hd' : Bool} {sn sn' : List Str} {sub sub' : List Value} {ab ab' : Bool} {col col' : Option Bool} {dd dd' : Option Addr} {k0 k1 k2 k3 k5 j0 j1 j2 j3 j5 : Option Value}
    {dd2 : Option Addr} {cd2 : ClassData} {sl2 : Array (Option Value)} {nc nc' : Value} {ndd ndd' : Option Addr} {nes nes' : Array DictEntry} {nep nep' : Nat} {nsl nsl' : Array (Option Value)}
    (a0 : PySem.W.nsIn K mainGlobals "NoRow" = some (some (.ref CN))) (a1 : PySem.W.nsIn K mainGlobals "CarveError" = some (some (.ref CC)))
    (o1 : K.lookup CN = some (excClassObj nm q CN N bs (.ref CC :: bmV) hd sn sub ab col dd k0 k1 k2 k3 k5 "ValueError.__new__")) (o2 : K.lookup N = some ⟨nc, ndd, .dict nes nep, nsl⟩) (o3 : (nes.toList.all fun e => match e.key with | .str _ _ => true | _ => false) = true) (o4 : PySem.W.nsIn K N "__init__" = some none)
    (u1 : K.lookup CC = some (excClassObj nm' q' CC N' bs' bmV hd' sn' sub' ab' col' dd' j0 j1 j2 j3 j5 "ValueError.__new__")) (u2 : K.lookup N' = some ⟨nc', ndd', .dict nes' nep', nsl'⟩) (u3 : (nes'.toList.all fun e => match e.key with | .str _ _ => true | _ => false) = true) (u4 : PySem.W.nsIn K N' "__init__" = some none)
    (co : K.lookup CC = some ⟨.type "type", dd2, .cls cd2, sl2⟩) (ex : PySem.W.mroIn K CC (.type "BaseException") = some true) (su : PySem.W.mroIn K CN (.ref CC) = some true)
    (e1 : PySem.W.hasDictIn K CN = true) (e2 : PySem.W.findIn K (.ref CN) "__getattribute__" = some (some (.builtin "BaseException.__getattribute__"))) (e3 : PySem.W.findIn K (.ref CN) "__getattr__" = some none) (e4 : PySem.W.findIn K (.ref CN) "__class__" = some (some (.builtin "object.__class__")))
    (e5 : PySem.W.specialIn K (.builtin "object.__class__") "__get__" = some (some (.builtin "getset_descriptor.__get__"))) (e6 : PySem.W.takesIn K (.builtin "object.__class__") = some true) (e7 : PySem.W.mroIn K CN (.type "object") = some true) (e8 : PySem.W.mroIn K CN (.type "BaseException") = some true)
    (va : PySem.W.subIn K (.ref CN) (.type "ValueError") = some true) (se : PySem.W.mroIn K CN (.ref CN) = some true) : ∃ CN CC, C_Row K CN CC :=
  ⟨CN, CC, a0, a1, ⟨nm, q, N, bs, hd, sn, sub, ab, col, dd, k0, k1, k2, k3, k5, o1, okIn_of o2 o3, o4⟩, ⟨nm', q', N', bs', hd', sn', sub', ab', col', dd', j0, j1, j2, j3, j5, u1, okIn_of u2 u3, u4⟩, ⟨dd2, cd2, sl2, co⟩, ex, su,
    ⟨by
      obtain ⟨cd, hc, _⟩ := PySem.W.any_some e1
      rw [hc]
      rfl, e2, e3, e4, e5, e6, e7, e8⟩, va, se⟩
theorem C_Row.own {K : PySem.W.Frag} {mg : Str → Option Value} {h : Heap} {CN CC : Addr} (S : C_Row K CN CC) (X : K.In h) (G : h.Ns mainGlobals mg) : RowT K mg h CN := by
  obtain ⟨nm, q, N, bs, hd, sn, sub, ab, col, dd, k0, k1, k2, k3, k5, o1, o2, o3⟩ := S.obj
  obtain ⟨nm', q', N', bs', hd', sn', sub', ab', col', dd', j0, j1, j2, j3, j5, u1, u2, u3⟩ := S.up
  refine ⟨bmV, ⟨PySem.W.mg_of X G S.ns, _, N, nm, q, bs, hd, sn, sub, ab, col, dd, k0, k1, k2, k3, k5, _, X _ _ o1, .of_isNs (PySem.W.isNs_of_in X o2), PySem.W.nsMap_none_of_in X o2 o3, ?_⟩, F.excBase_ValueError⟩
  exact .own (X _ _ u1) (.of_isNs (PySem.W.isNs_of_in X u2)) (PySem.W.nsMap_none_of_in X u2 u3) .base
/-! ### the text's constants -/
theorem int_mk {K : PySem.W.Frag} {x : Str} {i : Int} {t : Tok} (a : PySem.W.nsIn K mainGlobals x = some (some (.int i t))) : ∃ t, PySem.W.nsIn K mainGlobals x = some (some (.int i t)) := ⟨t, a⟩
theorem str_mk {K : PySem.W.Frag} {x z : Str} {t : Tok} (a : PySem.W.nsIn K mainGlobals x = some (some (.str z t))) : ∃ t, PySem.W.nsIn K mainGlobals x = some (some (.str z t)) := ⟨t, a⟩
structure KeptT (K : PySem.W.Frag) (a : Addr) : Prop where
  ns : PySem.W.nsIn K mainGlobals "KEPT_WORDS" = some (some (.ref a))
  sq : ∀ H : Hp, SqT K H a (keptW.map V.str)
theorem kept_mk {K : PySem.W.Frag} {a : Addr} {dd : Option Addr} {n : Nat} {sl : Array (Option Value)} {t0 t1 t2 t3 t4 t5 t6 t7 t8 t9 t10 t11 t12 t13 : Tok} (ns : PySem.W.nsIn K mainGlobals "KEPT_WORDS" = some (some (.ref a))) (l : K.lookup a = some ⟨.type "tuple", dd, .seq #[.str "hold" t0, .str "fast" t1, .str "slow" t2, .str "by" t3, .str "let" t4, .str "times" t5, .str "if" t6, .str "else" t7, .str "end" t8, .str "sub" t9, .str "call" t10, .str "x" t11, .str "y" t12, .str "z" t13] n, sl⟩) : ∃ a, KeptT K a :=
  ⟨a, ns, fun H => .inr ⟨_, _, n, l, rfl, rfl, (by show 14 ≤ sizeLine; decide), .cons ⟨t0, rfl⟩ (.cons ⟨t1, rfl⟩ (.cons ⟨t2, rfl⟩ (.cons ⟨t3, rfl⟩ (.cons ⟨t4, rfl⟩ (.cons ⟨t5, rfl⟩ (.cons ⟨t6, rfl⟩ (.cons ⟨t7, rfl⟩ (.cons ⟨t8, rfl⟩ (.cons ⟨t9, rfl⟩ (.cons ⟨t10, rfl⟩ (.cons ⟨t11, rfl⟩ (.cons ⟨t12, rfl⟩ (.cons ⟨t13, rfl⟩ (.nil))))))))))))))⟩⟩
structure NoneT (K : PySem.W.Frag) : Prop where
  len : PySem.W.nsIn K mainGlobals "len" = some none
  max : PySem.W.nsIn K mainGlobals "max" = some none
  min : PySem.W.nsIn K mainGlobals "min" = some none
  range : PySem.W.nsIn K mainGlobals "range" = some none
  isin : PySem.W.nsIn K mainGlobals "isinstance" = some none
  abs : PySem.W.nsIn K mainGlobals "abs" = some none
  tuple : PySem.W.nsIn K mainGlobals "tuple" = some none
  list : PySem.W.nsIn K mainGlobals "list" = some none
  bool : PySem.W.nsIn K mainGlobals "bool" = some none
  int : PySem.W.nsIn K mainGlobals "int" = some none
  all : PySem.W.nsIn K mainGlobals "all" = some none
  str : PySem.W.nsIn K mainGlobals "str" = some none
  val : PySem.W.nsIn K mainGlobals "ValueError" = some none
theorem FnT.fnB {P : Program} {w : World} {K : PySem.W.Frag} {mg : Str → Option Value} {base h : Heap} {x : Str} {st : Stmt} {f : Addr} {fd : FuncData} {k : Nat} {ps : List Str} {sp : Sp} (T : FnT K x st f fd) (X : K.In h) (G : h.Ns mainGlobals mg) (ok : FnOk P w K mg base (CX1 P w) k f fd ps sp) (bi : Binds K fd ps []) : Fn P w K mg base x k ps sp :=
  ⟨f, fd, ok, PySem.W.mg_of X G T.ns, T.fn.kp, bi⟩
theorem all {P : Program} {w : World} {K : PySem.W.Frag} {mg : Str → Option Value} {h : Heap} {fa : Addr} (X : K.In h) (G : h.Ns mainGlobals mg) (hfa : mg "law" = some (.ref fa)) (N : NoneT K)
    (i_MOST_LETTERS : ∃ t, PySem.W.nsIn K mainGlobals "MOST_LETTERS" = some (some (.int 8 t)))
    (i_MOST_FIGURES : ∃ t, PySem.W.nsIn K mainGlobals "MOST_FIGURES" = some (some (.int 6 t)))
    (i_MOST_SIGNS : ∃ t, PySem.W.nsIn K mainGlobals "MOST_SIGNS" = some (some (.int 60 t)))
    (i_MOST_BRACKETS : ∃ t, PySem.W.nsIn K mainGlobals "MOST_BRACKETS" = some (some (.int 5 t)))
    (i_SMALL_LETTERS : ∃ t, PySem.W.nsIn K mainGlobals "SMALL_LETTERS" = some (some (.str smallT t)))
    (i_FIGURES : ∃ t, PySem.W.nsIn K mainGlobals "FIGURES" = some (some (.str figT t)))
    (i_JOINTS : ∃ t, PySem.W.nsIn K mainGlobals "JOINTS" = some (some (.str jointT t)))
    (KW : ∃ a, KeptT K a) (S : ∃ CN CC, C_Row K CN CC)
    (T_is_written_in : ∃ f fd, FnT K "is_written_in" (top 12) f fd) (T_is_name : ∃ f fd, FnT K "is_name" (top 13) f fd) (T_is_number : ∃ f fd, FnT K "is_number" (top 14) f fd) (T_expression : ∃ f fd, FnT K "expression" (top 16) f fd) (T__law_stir : ∃ f fd, FnT K "_law_stir" (top 18) f fd) (T__law_name : ∃ f fd, FnT K "_law_name" (top 19) f fd) (T__law_tree : ∃ f fd, FnT K "_law_tree" (top 20) f fd) (T__law_worded : ∃ f fd, FnT K "_law_worded" (top 21) f fd) (T__law_spoilt : ∃ f fd, FnT K "_law_spoilt" (top 22) f fd) (T__law_parts : ∃ f fd, FnT K "_law_parts" (top 23) f fd) (T__law_good_factor : ∃ f fd, FnT K "_law_good_factor" (top 24) f fd) (T__law_good : ∃ f fd, FnT K "_law_good" (top 25) f fd) (T__law_refused : ∃ f fd, FnT K "_law_refused" (top 26) f fd) (T_law : ∃ f fd, FnT K "law" (top 27) f fd)
    (T_Scan : ∃ C f0 f1 f2 f3 f4 f5 f6 f7 d0 d1 d2 d3 d4 d5 d6 d7, C_Scan K C f0 f1 f2 f3 f4 f5 f6 f7 d0 d1 d2 d3 d4 d5 d6 d7) :
    ∃ fd : FuncData, (∀ (s : Shared) (v : Value), BindsTo s fd ⟨[v], []⟩ [("script", v)]) ∧ ∀ base : Heap, K.In base → base.Ns mainGlobals mg → FnOk P w K mg base (CX1 P w) 29 fa fd ["script"] (spLaw K) := by
  obtain ⟨t_MOST_LETTERS, i_MOST_LETTERS⟩ := i_MOST_LETTERS
  obtain ⟨t_MOST_FIGURES, i_MOST_FIGURES⟩ := i_MOST_FIGURES
  obtain ⟨t_MOST_SIGNS, i_MOST_SIGNS⟩ := i_MOST_SIGNS
  obtain ⟨t_MOST_BRACKETS, i_MOST_BRACKETS⟩ := i_MOST_BRACKETS
  obtain ⟨t_SMALL_LETTERS, i_SMALL_LETTERS⟩ := i_SMALL_LETTERS
  obtain ⟨t_FIGURES, i_FIGURES⟩ := i_FIGURES
  obtain ⟨t_JOINTS, i_JOINTS⟩ := i_JOINTS
  obtain ⟨aK, KW⟩ := KW
  obtain ⟨CN, CC, S⟩ := S
  obtain ⟨f_is_written_in, d_is_written_in, T_is_written_in⟩ := T_is_written_in
  obtain ⟨f_is_name, d_is_name, T_is_name⟩ := T_is_name
  obtain ⟨f_is_number, d_is_number, T_is_number⟩ := T_is_number
  obtain ⟨f_expression, d_expression, T_expression⟩ := T_expression
  obtain ⟨f__law_stir, d__law_stir, T__law_stir⟩ := T__law_stir
  obtain ⟨f__law_name, d__law_name, T__law_name⟩ := T__law_name
  obtain ⟨f__law_tree, d__law_tree, T__law_tree⟩ := T__law_tree
  obtain ⟨f__law_worded, d__law_worded, T__law_worded⟩ := T__law_worded
  obtain ⟨f__law_spoilt, d__law_spoilt, T__law_spoilt⟩ := T__law_spoilt
  obtain ⟨f__law_parts, d__law_parts, T__law_parts⟩ := T__law_parts
  obtain ⟨f__law_good_factor, d__law_good_factor, T__law_good_factor⟩ := T__law_good_factor
  obtain ⟨f__law_good, d__law_good, T__law_good⟩ := T__law_good
  obtain ⟨f__law_refused, d__law_refused, T__law_refused⟩ := T__law_refused
  obtain ⟨f_law, d_law, T_law⟩ := T_law
  obtain ⟨C, v0, v1, v2, v3, v4, v5, v6, v7, e0, e1, e2, e3, e4, e5, e6, e7, SC⟩ := T_Scan
  have e := hfa.symm.trans (PySem.W.mg_of X G T_law.ns)
  cases e
  refine ⟨d_law, ?_, fun base XB GB => ?_⟩
  · obtain ⟨oc, od, kV, doc, pm, an, cdv, ct, osl, rfl, lk, hcd⟩ := T_law.fn.ex
    exact fun s v => .of_eq rfl
  have L : LawT mg := ⟨PySem.W.mg_none_of X G N.len, PySem.W.mg_none_of X G N.max, PySem.W.mg_none_of X G N.min, PySem.W.mg_none_of X G N.range, PySem.W.mg_none_of X G N.isin, PySem.W.mg_none_of X G N.abs, PySem.W.mg_none_of X G N.tuple, PySem.W.mg_none_of X G N.list, PySem.W.mg_none_of X G N.bool, PySem.W.mg_none_of X G N.int⟩
  have NSt := PySem.W.mg_none_of X G N.str
  have WD : WdT K mg := ⟨PySem.W.mg_none_of X G N.all, ⟨t_SMALL_LETTERS, PySem.W.mg_of X G i_SMALL_LETTERS⟩, ⟨t_FIGURES, PySem.W.mg_of X G i_FIGURES⟩, ⟨t_JOINTS, PySem.W.mg_of X G i_JOINTS⟩, ⟨aK, PySem.W.mg_of X G KW.ns, KW.sq⟩, ⟨t_MOST_LETTERS, PySem.W.mg_of X G i_MOST_LETTERS⟩, ⟨t_MOST_FIGURES, PySem.W.mg_of X G i_MOST_FIGURES⟩, ⟨t_MOST_SIGNS, PySem.W.mg_of X G i_MOST_SIGNS⟩, ⟨t_MOST_BRACKETS, PySem.W.mg_of X G i_MOST_BRACKETS⟩⟩
  have RT : RowT K mg base CN := S.own XB GB
  have CR : CatchC K mg "NoRow" CN := ⟨PySem.W.mg_of X G S.ns, by
    obtain ⟨nm, q, N, bs, hd, sn, sub, ab, col, dd, k0, k1, k2, k3, k5, o1, o2, o3⟩ := S.obj
    exact ⟨_, _, _, o1⟩, S.ek.be⟩
  have ST : ScT K C := ⟨SC.cl, SC.n_word, SC.n_at, SC.n_brackets⟩
  have FWr := T_is_written_in.fnB (P := P) (w := w) (base := base) X G (ok_written WD T_is_written_in.fn) (T_is_written_in.fn.binds fun _ _ _ _ _ _ => byLen2 fun _ _ => rfl)
  have FNm := T_is_name.fnB (P := P) (w := w) (base := base) X G (ok_name L WD FWr T_is_name.fn) (T_is_name.fn.binds fun _ _ _ _ _ _ => byLen1 fun _ => rfl)
  have FNu := T_is_number.fnB (P := P) (w := w) (base := base) X G (ok_number L WD FWr T_is_number.fn) (T_is_number.fn.binds fun _ _ _ _ _ _ => byLen1 fun _ => rfl)
  have MI : Mc P w K mg base "Scan" C 1 ["self", "word"] (spScanI C) := ⟨v0, e0, ok_scanI ST SC.fn___init__, SC.mks, PySem.W.mg_of X G SC.ns, (SC.fn___init__.binds fun _ _ _ _ _ _ => byLen2 fun _ _ => rfl)⟩
  have MA : Mt P w K mg base C "sign_ahead" 1 ["self"] (spAhead C) := ⟨v1, e1, ok_ahead ST SC.fn_sign_ahead, SC.mt_sign_ahead, SC.cl, (SC.fn_sign_ahead.binds fun _ _ _ _ _ _ => byLen1 fun _ => rfl)⟩
  have MS : Mt P w K mg base C "take_sign" 2 ["self"] (spTakeS C) := ⟨v2, e2, ok_takeS ST MA SC.fn_take_sign, SC.mt_take_sign, SC.cl, (SC.fn_take_sign.binds fun _ _ _ _ _ _ => byLen1 fun _ => rfl)⟩
  have MP : Mt P w K mg base C "take_piece" 2 ["self"] (spPiece C) := ⟨v7, e7, ok_piece L WD ST MA SC.fn_take_piece, SC.mt_take_piece, SC.cl, (SC.fn_take_piece.binds fun _ _ _ _ _ _ => byLen1 fun _ => rfl)⟩
  have mB : MeT K C "take_brackets" "Scan.take_brackets" _ _ _ := ⟨SC.fn_take_brackets, SC.mt_take_brackets, (SC.fn_take_brackets.binds fun _ _ _ _ _ _ => byLen1 fun _ => rfl)⟩
  have mF : MeT K C "take_factor" "Scan.take_factor" _ _ _ := ⟨SC.fn_take_factor, SC.mt_take_factor, (SC.fn_take_factor.binds fun _ _ _ _ _ _ => byLen1 fun _ => rfl)⟩
  have mS : MeT K C "take_factors" "Scan.take_factors" _ _ _ := ⟨SC.fn_take_factors, SC.mt_take_factors, (SC.fn_take_factors.binds fun _ _ _ _ _ _ => byLen1 fun _ => rfl)⟩
  have mT : MeT K C "take_terms" "Scan.take_terms" _ _ _ := ⟨SC.fn_take_terms, SC.mt_take_terms, (SC.fn_take_terms.binds fun _ _ _ _ _ _ => byLen1 fun _ => rfl)⟩
  have MT := ok_par (P := P) (w := w) (base := base) L WD RT ST MA MS MP FNu FNm mB mF mS mT 5
  have FEx := T_expression.fnB (P := P) (w := w) (base := base) X G (ok_expr L WD RT ST MI MT T_expression.fn) (T_expression.fn.binds fun _ _ _ _ _ _ => byLen1 fun _ => rfl)
  have F1 := T__law_stir.fnB (P := P) (w := w) (base := base) X G (ok_stir T__law_stir.fn) (T__law_stir.fn.binds fun _ _ _ _ _ _ => byLen2 fun _ _ => rfl)
  have F2 := T__law_name.fnB (P := P) (w := w) (base := base) X G (ok_nm T__law_name.fn) (T__law_name.fn.binds fun _ _ _ _ _ _ => byLen1 fun _ => rfl)
  have F3 := ok_tree (P := P) (w := w) (base := base) F1 F2 (PySem.W.mg_of X G T__law_tree.ns) T__law_tree.fn.kp (T__law_tree.fn.binds fun _ _ _ _ _ _ => byLen3 fun _ _ _ => rfl) T__law_tree.fn
  have F4 := ok_worded (P := P) (w := w) (base := base) NSt (PySem.W.mg_of X G T__law_worded.ns) T__law_worded.fn.kp (T__law_worded.fn.binds fun _ _ _ _ _ _ => byLen2 fun _ _ => rfl) T__law_worded.fn
  have F5 := T__law_spoilt.fnB (P := P) (w := w) (base := base) X G (ok_spoilt L F1 T__law_spoilt.fn) (T__law_spoilt.fn.binds fun _ _ _ _ _ _ => byLen3 fun _ _ _ => rfl)
  have F6 := T__law_parts.fnB (P := P) (w := w) (base := base) X G (ok_parts L T__law_parts.fn) (T__law_parts.fn.binds fun _ _ _ _ _ _ => byLen1 fun _ => rfl)
  have F7 := T__law_good_factor.fnB (P := P) (w := w) (base := base) X G (ok_goodF L T__law_good_factor.fn) (T__law_good_factor.fn.binds fun _ _ _ _ _ _ => byLen2 fun _ _ => rfl)
  have F8 := T__law_good.fnB (P := P) (w := w) (base := base) X G (ok_good L F6 F7 T__law_good.fn) (T__law_good.fn.binds fun _ _ _ _ _ _ => byLen1 fun _ => rfl)
  have F9 := T__law_refused.fnB (P := P) (w := w) (base := base) X G (ok_refused CR S.self FEx T__law_refused.fn) (T__law_refused.fn.binds fun _ _ _ _ _ _ => byLen1 fun _ => rfl)
  exact ok_law L F1 (F3 2) (F4 2) F5 F9 F8 T_law.fn
theorem walk {l : PySem.W.OpenLaw} {q : Program} {loose : List Str} {XP : (Str → Option Value) → Heap → Prop} {YP : World → Heap → Prop} {d : DefRec} {K : Params → PySem.W.Frag} (hn : l.most = some 63) (hdf : d.params.defaults = [])
    (hY : ∀ (w : World) (h : Heap), YP w h → (K w.params).In h)
    (F : ∀ (w : World) (mg : Str → Option Value) (fa : Addr) (h : Heap), (K w.params).In h → h.Ns mainGlobals mg → mg d.name = some (.ref fa) →
      ∃ fd : FuncData, (∀ (s : Shared) (u : Value), BindsTo s fd ⟨[u], []⟩ [("script", u)]) ∧ ∀ base : Heap, (K w.params).In base → base.Ns mainGlobals mg → FnOk l.prog w (K w.params) mg base (CX1 l.prog w) 29 fa fd ["script"] (spLaw (K w.params))) :
    PySem.W.WalkO q loose XP YP l.row.toRowW d [] (fun f vs => PySem.call f vs) :=
  L2.walk_of (n := 63) (k := 29) (x := "script") (CX := fun w => CX1 l.prog w) (sp := fun w => spLaw (K w.params)) hn (by decide) hdf ⟨rfl, by decide, by decide⟩ hY F (fun _ _ a ns hl _ hS => ⟨a, ns, rfl, hS, hl, fun _ => rfl⟩) fun _ _ _ _ _ z => by
    obtain ⟨_, _, _, _, _, _, _, _, _, _, _, _, _, _, _, ff⟩ := z
    exact ff
end Car
open PySem PySem.W PyProof.Rows
set_option maxRecDepth 100000 in
set_option maxHeartbeats 0 in
theorem PySem.Challenge.cw_carvebed_k03_expressions_refused_holds : PySem.Challenge.rw_carvebed_k03_expressions_refused.Holds := by
  w_on; o_law; k_head; (case hw => w_witness2)
  k_fill
  refine Car.walk (l := PySem.Challenge.rw_carvebed_k03_expressions_refused) rfl rfl (fun w h Y => PySem.W.kIn_of Y) ?F
  case F =>
    intro w mg fa h KX G hmg
    have T_is_written_in : ∃ f fd, Car.FnT (L2.KOf KX) "is_written_in" (Car.top 12) f fd := by
      dsimp only [L2.KOf]
      refine' Car.fnT_mk ?a ?l ?c ?k
      (case a => k_is); (case l => k_is); (case c => k_is); (case k => k_is)
    have T_is_name : ∃ f fd, Car.FnT (L2.KOf KX) "is_name" (Car.top 13) f fd := by
      dsimp only [L2.KOf]
      refine' Car.fnT_mk ?a ?l ?c ?k
      (case a => k_is); (case l => k_is); (case c => k_is); (case k => k_is)
    have T_is_number : ∃ f fd, Car.FnT (L2.KOf KX) "is_number" (Car.top 14) f fd := by
      dsimp only [L2.KOf]
      refine' Car.fnT_mk ?a ?l ?c ?k
      (case a => k_is); (case l => k_is); (case c => k_is); (case k => k_is)
    have T_Scan : ∃ C f0 f1 f2 f3 f4 f5 f6 f7 d0 d1 d2 d3 d4 d5 d6 d7, Car.C_Scan (L2.KOf KX) C f0 f1 f2 f3 f4 f5 f6 f7 d0 d1 d2 d3 d4 d5 d6 d7 := by
      dsimp only [L2.KOf]
      refine' Car.C_Scan_mk ?aC ?a0 ?i0 ?l0 ?c0 ?k0 ?a1 ?i1 ?l1 ?c1 ?k1 ?a2 ?i2 ?l2 ?c2 ?k2 ?a3 ?i3 ?l3 ?c3 ?k3 ?a4 ?i4 ?l4 ?c4 ?k4 ?a5 ?i5 ?l5 ?c5 ?k5 ?a6 ?i6 ?l6 ?c6 ?k6 ?a7 ?i7 ?l7 ?c7 ?k7 ?pg ?hd ?po ?sa ?mk ?kc ?n0 ?n1 ?n2
      (case aC => k_is); (case a0 => k_is); (case i0 => k_is); (case l0 => k_is); (case c0 => k_is); (case k0 => k_is); (case a1 => k_is); (case i1 => k_is); (case l1 => k_is); (case c1 => k_is); (case k1 => k_is); (case a2 => k_is); (case i2 => k_is); (case l2 => k_is); (case c2 => k_is); (case k2 => k_is); (case a3 => k_is); (case i3 => k_is); (case l3 => k_is); (case c3 => k_is); (case k3 => k_is); (case a4 => k_is); (case i4 => k_is); (case l4 => k_is); (case c4 => k_is); (case k4 => k_is); (case a5 => k_is); (case i5 => k_is); (case l5 => k_is); (case c5 => k_is); (case k5 => k_is); (case a6 => k_is); (case i6 => k_is); (case l6 => k_is); (case c6 => k_is); (case k6 => k_is); (case a7 => k_is); (case i7 => k_is); (case l7 => k_is); (case c7 => k_is); (case k7 => k_is); (case pg => k_is); (case hd => k_is); (case po => k_is); (case sa => k_is); (case mk => k_is); (case kc => k_is); (case n0 => k_is); (case n1 => k_is); (case n2 => k_is)
    have T_expression : ∃ f fd, Car.FnT (L2.KOf KX) "expression" (Car.top 16) f fd := by
      dsimp only [L2.KOf]
      refine' Car.fnT_mk ?a ?l ?c ?k
      (case a => k_is); (case l => k_is); (case c => k_is); (case k => k_is)
    have T__law_stir : ∃ f fd, Car.FnT (L2.KOf KX) "_law_stir" (Car.top 18) f fd := by
      dsimp only [L2.KOf]
      refine' Car.fnT_mk ?a ?l ?c ?k
      (case a => k_is); (case l => k_is); (case c => k_is); (case k => k_is)
    have T__law_name : ∃ f fd, Car.FnT (L2.KOf KX) "_law_name" (Car.top 19) f fd := by
      dsimp only [L2.KOf]
      refine' Car.fnT_mk ?a ?l ?c ?k
      (case a => k_is); (case l => k_is); (case c => k_is); (case k => k_is)
    have T__law_tree : ∃ f fd, Car.FnT (L2.KOf KX) "_law_tree" (Car.top 20) f fd := by
      dsimp only [L2.KOf]
      refine' Car.fnT_mk ?a ?l ?c ?k
      (case a => k_is); (case l => k_is); (case c => k_is); (case k => k_is)
    have T__law_worded : ∃ f fd, Car.FnT (L2.KOf KX) "_law_worded" (Car.top 21) f fd := by
      dsimp only [L2.KOf]
      refine' Car.fnT_mk ?a ?l ?c ?k
      (case a => k_is); (case l => k_is); (case c => k_is); (case k => k_is)
    have T__law_spoilt : ∃ f fd, Car.FnT (L2.KOf KX) "_law_spoilt" (Car.top 22) f fd := by
      dsimp only [L2.KOf]
      refine' Car.fnT_mk ?a ?l ?c ?k
      (case a => k_is); (case l => k_is); (case c => k_is); (case k => k_is)
    have T__law_parts : ∃ f fd, Car.FnT (L2.KOf KX) "_law_parts" (Car.top 23) f fd := by
      dsimp only [L2.KOf]
      refine' Car.fnT_mk ?a ?l ?c ?k
      (case a => k_is); (case l => k_is); (case c => k_is); (case k => k_is)
    have T__law_good_factor : ∃ f fd, Car.FnT (L2.KOf KX) "_law_good_factor" (Car.top 24) f fd := by
      dsimp only [L2.KOf]
      refine' Car.fnT_mk ?a ?l ?c ?k
      (case a => k_is); (case l => k_is); (case c => k_is); (case k => k_is)
    have T__law_good : ∃ f fd, Car.FnT (L2.KOf KX) "_law_good" (Car.top 25) f fd := by
      dsimp only [L2.KOf]
      refine' Car.fnT_mk ?a ?l ?c ?k
      (case a => k_is); (case l => k_is); (case c => k_is); (case k => k_is)
    have T__law_refused : ∃ f fd, Car.FnT (L2.KOf KX) "_law_refused" (Car.top 26) f fd := by
      dsimp only [L2.KOf]
      refine' Car.fnT_mk ?a ?l ?c ?k
      (case a => k_is); (case l => k_is); (case c => k_is); (case k => k_is)
    have T_law : ∃ f fd, Car.FnT (L2.KOf KX) "law" (Car.top 27) f fd := by
      dsimp only [L2.KOf]
      refine' Car.fnT_mk ?a ?l ?c ?k
      (case a => k_is); (case l => k_is); (case c => k_is); (case k => k_is)
    have N : Car.NoneT (L2.KOf KX) := by
      dsimp only [L2.KOf]
      refine' ⟨?n0, ?n1, ?n2, ?n3, ?n4, ?n5, ?n6, ?n7, ?n8, ?n9, ?n10, ?n11, ?n12⟩
      (case n0 => k_is); (case n1 => k_is); (case n2 => k_is); (case n3 => k_is); (case n4 => k_is); (case n5 => k_is); (case n6 => k_is); (case n7 => k_is); (case n8 => k_is); (case n9 => k_is); (case n10 => k_is); (case n11 => k_is); (case n12 => k_is)
    have i_MOST_LETTERS : ∃ t, PySem.W.nsIn (L2.KOf KX) mainGlobals "MOST_LETTERS" = some (some (.int 8 t)) := by
      dsimp only [L2.KOf]
      refine' Car.int_mk ?a
      (case a => k_is)
    have i_MOST_FIGURES : ∃ t, PySem.W.nsIn (L2.KOf KX) mainGlobals "MOST_FIGURES" = some (some (.int 6 t)) := by
      dsimp only [L2.KOf]
      refine' Car.int_mk ?a
      (case a => k_is)
    have i_MOST_SIGNS : ∃ t, PySem.W.nsIn (L2.KOf KX) mainGlobals "MOST_SIGNS" = some (some (.int 60 t)) := by
      dsimp only [L2.KOf]
      refine' Car.int_mk ?a
      (case a => k_is)
    have i_MOST_BRACKETS : ∃ t, PySem.W.nsIn (L2.KOf KX) mainGlobals "MOST_BRACKETS" = some (some (.int 5 t)) := by
      dsimp only [L2.KOf]
      refine' Car.int_mk ?a
      (case a => k_is)
    have i_SMALL_LETTERS : ∃ t, PySem.W.nsIn (L2.KOf KX) mainGlobals "SMALL_LETTERS" = some (some (.str Car.smallT t)) := by
      dsimp only [L2.KOf]
      refine' Car.str_mk ?a
      (case a => k_is)
    have i_FIGURES : ∃ t, PySem.W.nsIn (L2.KOf KX) mainGlobals "FIGURES" = some (some (.str Car.figT t)) := by
      dsimp only [L2.KOf]
      refine' Car.str_mk ?a
      (case a => k_is)
    have i_JOINTS : ∃ t, PySem.W.nsIn (L2.KOf KX) mainGlobals "JOINTS" = some (some (.str Car.jointT t)) := by
      dsimp only [L2.KOf]
      refine' Car.str_mk ?a
      (case a => k_is)
    have KW : ∃ a, Car.KeptT (L2.KOf KX) a := by
      dsimp only [L2.KOf]
      refine' Car.kept_mk ?n ?l
      (case n => k_is); (case l => k_is)
    have S : ∃ CN CC, Car.C_Row (L2.KOf KX) CN CC := by
      dsimp only [L2.KOf]
      refine' Car.C_Row_mk ?a0 ?a1 ?o1 ?o2 ?o3 ?o4 ?u1 ?u2 ?u3 ?u4 ?co ?ex ?su ?e1 ?e2 ?e3 ?e4 ?e5 ?e6 ?e7 ?e8 ?va ?se
      (case a0 => k_is); (case a1 => k_is); (case o1 => k_is); (case o2 => k_is); (case o3 => rfl); (case o4 => k_is); (case u1 => k_is); (case u2 => k_is); (case u3 => rfl); (case u4 => k_is); (case co => k_is); (case ex => k_is); (case su => k_is); (case e1 => k_is); (case e2 => k_is); (case e3 => k_is); (case e4 => k_is); (case e5 => k_is); (case e6 => k_is); (case e7 => k_is); (case e8 => k_is); (case va => k_is); (case se => k_is)
    exact Car.all KX G hmg N i_MOST_LETTERS i_MOST_FIGURES i_MOST_SIGNS i_MOST_BRACKETS i_SMALL_LETTERS i_FIGURES i_JOINTS KW S  T_is_written_in T_is_name T_is_number T_expression T__law_stir T__law_name T__law_tree T__law_worded T__law_spoilt T__law_parts T__law_good_factor T__law_good T__law_refused T_law T_Scan
#print axioms PySem.Challenge.cw_carvebed_k03_expressions_refused_holds

