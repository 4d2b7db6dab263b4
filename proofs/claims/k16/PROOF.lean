import PyProof.Rows.All
import Wide.All
import OpenK.AllK
import Wide.FinOn
import Lean
import PyProof.EqAt
import PyProof.EqKinds
import PyProof.TupleCall
import PySem.Challenge.RW_carvebed_k16_whole_unrolled
set_option Elab.async false
set_option linter.all false
set_option maxRecDepth 100000
-- CHANGE: your row's module here, as the last of these rows
namespace L2
open PySem PySem.Spec PyProof.Rows

noncomputable abbrev Key := Sum Int Str
noncomputable def keyIs : Key → Value → Bool
  | .inl k, v => Value.isInt k v
  | .inr x, v => Value.isStrOf x v
noncomputable def keyH (w : World) : Key → Int
  | .inl k => hashInt k
  | .inr x => hashStr w x
theorem keyIs_shape : ∀ {k : Key} {v : Value}, keyIs k v = true → (∃ i t, k = Sum.inl i ∧ v = Value.int i t) ∨ (∃ x t, k = Sum.inr x ∧ v = Value.str x t)
  | .inl i, v, h => by
    obtain ⟨t, e⟩ := Value.isInt_shape (k := i) (v := v) h
    exact .inl ⟨i, t, rfl, e⟩
  | .inr x, v, h => by
    obtain ⟨t, e⟩ := Value.isStrOf_shape (x := x) (v := v) h
    exact .inr ⟨x, t, rfl, e⟩
theorem keyIs_int (i : Int) (t : Tok) : keyIs (.inl i) (.int i t) = true := by simp [keyIs, Value.isInt]
theorem keyIs_str (x : Str) (t : Tok) : keyIs (.inr x) (.str x t) = true := by simp [keyIs, Value.isStrOf]
theorem key_ll (a b : Int) : decide ((Sum.inl a : Key) = Sum.inl b) = (a == b) := by
  by_cases e : a = b
  · subst e; simp
  · have h : ¬ (Sum.inl a : Key) = Sum.inl b := fun q => e (Sum.inl.inj q)
    rw [decide_eq_false h]
    exact (beq_eq_false_iff_ne.mpr e).symm
theorem key_rr (a b : Str) : decide ((Sum.inr a : Key) = Sum.inr b) = decide (a = b) := by
  by_cases e : a = b
  · subst e; simp
  · have h : ¬ (Sum.inr a : Key) = Sum.inr b := fun q => e (Sum.inr.inj q)
    rw [decide_eq_false h, decide_eq_false e]
theorem key_lr (a : Int) (b : Str) : decide ((Sum.inl a : Key) = Sum.inr b) = false := decide_eq_false (fun q => nomatch q)
theorem key_rl (a : Str) (b : Int) : decide ((Sum.inr a : Key) = Sum.inl b) = false := decide_eq_false (fun q => nomatch q)

noncomputable def mixKind (prog : Program) (w : World) : PySem.KeyKind prog w Key where
  is := keyIs
  hash := keyH w
  inj := fun v a b ha hb => by
    rcases keyIs_shape ha with ⟨i, t, rfl, rfl⟩ | ⟨x, t, rfl, rfl⟩
    · rcases keyIs_shape hb with ⟨j, u, rfl, e⟩ | ⟨y, u, rfl, e⟩
      · injection e with e1 _; rw [e1]
      · exact nomatch e
    · rcases keyIs_shape hb with ⟨j, u, rfl, e⟩ | ⟨y, u, rfl, e⟩
      · exact nomatch e
      · injection e with e1 _; rw [e1]
  byValue := fun k v h => by
    rcases keyIs_shape h with ⟨i, t, rfl, rfl⟩ | ⟨x, t, rfl, rfl⟩ <;> rfl
  pyHash := fun hv h => by
    rcases keyIs_shape hv with ⟨i, t, rfl, rfl⟩ | ⟨x, t, rfl, rfl⟩
    · exact wpAny_pyHash_int h
    · exact wpAny_pyHash_str h
  eqBool := fun hu hv h => by
    rcases keyIs_shape hu with ⟨i, t, rfl, rfl⟩ | ⟨x, t, rfl, rfl⟩
    · rcases keyIs_shape hv with ⟨j, u, rfl, rfl⟩ | ⟨y, u, rfl, rfl⟩
      · rw [key_ll] at h; exact wpAny_eqBool_int h
      · rw [key_lr] at h; exact SeqAt.EqAt.int_str i t y u _ _ _ _ h
    · rcases keyIs_shape hv with ⟨j, u, rfl, rfl⟩ | ⟨y, u, rfl, rfl⟩
      · rw [key_rl] at h; exact SeqAt.EqAt.str_int x t j u _ _ _ _ h
      · rw [key_rr] at h; exact wpAny_eqBool_str h
  «strs» := fun k x t v h => by
    rcases keyIs_shape h with ⟨i, u, rfl, e⟩ | ⟨y, u, rfl, e⟩
    · exact nomatch e
    · injection e with e1 _
      subst e1
      cases v <;> rfl

theorem mixKind_int (prog : Program) (w : World) (i : Int) (t : Tok) : (mixKind prog w).is (.inl i) (.int i t) = true := keyIs_int i t
theorem mixKind_str (prog : Program) (w : World) (x : Str) (t : Tok) : (mixKind prog w).is (.inr x) (.str x t) = true := keyIs_str x t
end L2

namespace L2
open PySem PySem.Spec PyProof.Rows

inductive V where
  | non | bl (b : Bool) | int (i : Int) | str (x : Str) | byt (b : Array UInt8) | flt (b : UInt64) | ref (a : Addr) | ty (n : String)
  deriving DecidableEq

noncomputable def RelV : V → Value → Prop
  | .non, u => u = Value.none
  | .bl b, u => u = Value.bool b
  | .int i, u => ∃ t, u = Value.int i t
  | .str x, u => ∃ t, u = Value.str x t
  | .byt b, u => ∃ t, u = Value.bytes b t
  | .flt b, u => ∃ t, u = Value.float b t
  | .ref a, u => u = Value.ref a
  | .ty n, u => u = Value.type n

noncomputable abbrev Vals : List V → List Value → Prop := Paired RelV
theorem Vals.length {xs : List V} {us : List Value} (r : Vals xs us) : xs.length = us.length := Paired.length r
theorem Vals.get : ∀ {xs : List V} {us : List Value} {i : Nat} {x : V}, Vals xs us → xs[i]? = some x → ∃ u, us[i]? = some u ∧ RelV x u
  | _, _, _, _, .nil, e => by simp at e
  | _, _, 0, _, .cons r _, e => by simp at e; subst e; exact ⟨_, rfl, r⟩
  | _, _, i + 1, x, .cons _ t, e => by
    obtain ⟨u, h1, h2⟩ := Vals.get (i := i) (x := x) t (by simpa using e)
    exact ⟨u, by simpa using h1, h2⟩
theorem Vals.set {x : V} {u : Value} (r : RelV x u) : ∀ {xs : List V} {us : List Value} (i : Nat), Vals xs us → Vals (xs.set i x) (us.set i u)
  | _, _, _, .nil => .nil
  | _, _, 0, .cons _ t => .cons r t
  | _, _, i + 1, .cons q t => .cons q (Vals.set r i t)
theorem Vals.append : ∀ {xs ys : List V} {us ws : List Value}, Vals xs us → Vals ys ws → Vals (xs ++ ys) (us ++ ws)
  | _, _, _, _, .nil, s => s
  | _, _, _, _, .cons r t, s => .cons r (Vals.append t s)
theorem Vals.take : ∀ {xs : List V} {us : List Value} (n : Nat), Vals xs us → Vals (xs.take n) (us.take n)
  | _, _, 0, _ => .nil
  | _, _, _ + 1, .nil => .nil
  | _, _, n + 1, .cons r t => .cons r (Vals.take n t)
theorem Vals.drop : ∀ {xs : List V} {us : List Value} (n : Nat), Vals xs us → Vals (xs.drop n) (us.drop n)
  | _, _, 0, r => r
  | _, _, _ + 1, .nil => .nil
  | _, _, n + 1, .cons _ t => Vals.drop n t

noncomputable def RelO : Option V → Option Value → Prop
  | some v, some u => RelV v u
  | none, none => True
  | _, _ => False
noncomputable def KV {κ : Type} : List (κ × V) → List (κ × Value) → Prop := Paired fun (p : κ × V) (q : κ × Value) => p.1 = q.1 ∧ RelV p.2 q.2

noncomputable def kV : Key → V
  | .inl i => .int i
  | .inr x => .str x

inductive HO where
    | lst (xs : List V)
    | tup (xs : List V)
    | dK (kvs : List (Key × V)) | dT (kvs : List (List Key × V))
    | set (S : Int → Bool) (n : Nat)
    | ins (C dx : Addr) (fs : List (Str × V))
    | own (x : Addr)
    | xd (fs : List (Str × V))
    | met (f x : Addr)
    | rng (lo hi : Int)
    | frz (o : Obj) (u : HO)
    | tbl (ps : Array Value)
    | ext (φ : Heap → Prop)

noncomputable abbrev Hp := Addr → Option HO
noncomputable def upd (H : Hp) (a : Addr) (o : HO) : Hp := fun b => if b = a then some o else H b
theorem upd_same {H : Hp} {a : Addr} {o : HO} : upd H a o a = some o := by unfold upd; rw [if_pos rfl]
theorem upd_ne {H : Hp} {a b : Addr} {o : HO} (h : b ≠ a) : upd H a o b = H b := by unfold upd; rw [if_neg h]
theorem upd_upd {H : Hp} {a : Addr} {o u : HO} : upd (upd H a o) a u = upd H a u := by
  funext b; unfold upd; split <;> rfl
theorem ne_of {H : Hp} {a b : Addr} {o u : HO} (h : H a = some o) (h' : H b = some u) (d : o ≠ u) : a ≠ b := by
  intro e; subst e; rw [h] at h'; exact d (Option.some.inj h')
theorem ne_of_none {H : Hp} {a b : Addr} {o : HO} (h : H a = some o) (h' : H b = none) : a ≠ b := by
  intro e; subst e; rw [h] at h'; cases h'

section
variable (P : Program) (w : World)
noncomputable def ObjOk (H : Hp) (h : Heap) (a : Addr) : HO → Prop
  | .lst xs => xs.length ≤ sizeLine ∧ ∃ (its : List Value) (n : Nat), Vals xs its ∧ h.get? a = some { cls := .type "list", data := .seq its.toArray n }
  | .tup xs => xs.length ≤ sizeLine ∧ ∃ its : List Value, Vals xs its ∧ IsTup h a its.toArray
  | .dK kvs => kvs.length ≤ sizeLine ∧ (a == sysModules) = false ∧ ∃ vs, KV kvs vs ∧ h.DictOf (mixKind P w) a vs
  | .dT kvs => kvs.length ≤ sizeLine ∧ (a == sysModules) = false ∧ ∃ xs : List (List Key × Addr × Value),
      Paired (fun (p : List Key × V) (q : List Key × Addr × Value) => p.1 = q.1 ∧ H q.2.1 = some (.tup (p.1.map kV)) ∧ RelV p.2 q.2.2) kvs xs ∧
      ∃ o es ep, h.get? a = some o ∧ o.ExactDict ∧ o.data = .dict es ep ∧ es.toList = xs.map (entryOfKey (tupleKind (mixKind P w))) ∧ (xs.map (·.1)).Nodup
  | .set S n => h.SetOf (intKind P w) a S n
  | .ins C dx fs => H dx = some (.own a) ∧ fs.length ≤ 1000 ∧ dx ≠ a ∧ h.get? a = some (PySem.W.instObj C dx) ∧
      ∃ mA, h.Ns1 dx mA ∧ (∀ f, RelO (fs.lookup f) (mA f)) ∧ PySem.Within mA (fs.map (·.1))
  | .own _ => ∃ o, h.get? a = some o
  | .xd fs => ∃ mA, h.Ns1 a mA ∧ ∀ f, RelO (fs.lookup f) (mA f)
  | .rng lo hi => ∃ t u v, h.get? a = some { cls := .type "range", data := .fields #[.int lo t, .int hi u, .int 1 v] }
  | .frz o u => h.get? a = some o ∧ ObjOk H h a u
  | .tbl ps => h.get? a = some { cls := .none, data := .fields ps }
  | .met f x => h.get? a = some (PySem.W.methodObj (.ref f) (.ref x))
  | .ext φ => φ h ∧ (∃ o, h.get? a = some o) ∧ ∀ h1 h2 : Heap, φ h1 → (∀ o, h1.get? a = some o → h2.get? a = some o) → φ h2
noncomputable def HOk (H : Hp) (h : Heap) : Prop := ∀ a o, H a = some o → ObjOk P w H h a o
end

section
variable {P : Program} {w : World} {H H' : Hp} {h h' : Heap} {a : Addr} {o : HO}
theorem ObjOk.lt (x : ObjOk P w H h a o) : a < h.objs.size := by
  cases o with
  | lst xs => obtain ⟨_, _, _, _, e⟩ := x; exact Heap.lt_size e
  | tup xs => obtain ⟨_, _, _, p⟩ := x; exact p.lt
  | dK kvs => obtain ⟨_, _, _, _, o, _, _, e, _⟩ := x; exact Heap.lt_size e
  | dT kvs => obtain ⟨_, _, _, _, o, _, _, e, _⟩ := x; exact Heap.lt_size e
  | set S n => obtain ⟨o, _, _, _, e, _⟩ := x; exact Heap.lt_size e
  | ins C dx fs => obtain ⟨_, _, _, e, _⟩ := x; exact Heap.lt_size e
  | own y => obtain ⟨_, e⟩ := x; exact Heap.lt_size e
  | xd fs => obtain ⟨_, ⟨_, _, _, e, _⟩, _⟩ := x; exact Heap.lt_size e
  | rng lo hi => obtain ⟨_, _, _, e⟩ := x; exact Heap.lt_size e
  | frz ob u => obtain ⟨e, _⟩ := x; exact Heap.lt_size e
  | tbl ps => exact Heap.lt_size (show h.get? a = some _ from x)
  | met f y => exact Heap.lt_size (show h.get? a = some _ from x)
  | ext φ => obtain ⟨_, ⟨_, e⟩, _⟩ := x; exact Heap.lt_size e
theorem Paired.mapP {α β : Type} {F G : α → β → Prop} : ∀ {l₁ : List α} {l₂ : List β}, Paired F l₁ l₂ → (∀ a b, F a b → G a b) → Paired G l₁ l₂
  | _, _, .nil, _ => .nil
  | _, _, .cons r t, f => .cons (f _ _ r) (Paired.mapP t f)
theorem ObjOk.stay (x : ObjOk P w H h a o) (k : ∀ b u, (b = a ∨ H b = some (.own a)) → h.get? b = some u → h'.get? b = some u)
    (ho : ∀ b, H b = some (.own a) → H' b = some (.own a)) (ht : ∀ b xs, H b = some (.tup xs) → H' b = some (.tup xs)) : ObjOk P w H' h' a o := by
  induction o with
  | lst xs => obtain ⟨z, its, n, r, e⟩ := x; exact ⟨z, its, n, r, k _ _ (.inl rfl) e⟩
  | tup xs => obtain ⟨z, its, r, ob, e, c⟩ := x; exact ⟨z, its, r, ob, k _ _ (.inl rfl) e, c⟩
  | dK kvs => obtain ⟨z, y, vs, r, ob, es, ep, e, c⟩ := x; exact ⟨z, y, vs, r, ob, es, ep, k _ _ (.inl rfl) e, c⟩
  | dT kvs =>
    obtain ⟨z, y, xs, r, ob, es, ep, e, c⟩ := x
    exact ⟨z, y, xs, Paired.mapP r fun p q z => ⟨z.1, ht _ _ z.2.1, z.2.2⟩, ob, es, ep, k _ _ (.inl rfl) e, c⟩
  | set S n => obtain ⟨ob, es, ep, t, e, c⟩ := x; exact ⟨ob, es, ep, t, k _ _ (.inl rfl) e, c⟩
  | ins C dx fs =>
    obtain ⟨d, z, ne, e, mA, ⟨od, es, ep, e2, c⟩, r⟩ := x
    exact ⟨ho _ d, z, ne, k _ _ (.inl rfl) e, mA, ⟨od, es, ep, k _ _ (.inr d) e2, c⟩, r⟩
  | own y => obtain ⟨ob, e⟩ := x; exact ⟨ob, k _ _ (.inl rfl) e⟩
  | xd fs => obtain ⟨mA, ⟨od, es, ep, e, c⟩, r⟩ := x; exact ⟨mA, ⟨od, es, ep, k _ _ (.inl rfl) e, c⟩, r⟩
  | rng lo hi => obtain ⟨t, u, v, e⟩ := x; exact ⟨t, u, v, k _ _ (.inl rfl) e⟩
  | frz ob u ih => obtain ⟨e, q⟩ := x; exact ⟨k _ _ (.inl rfl) e, ih q⟩
  | tbl ps =>
    have e : h.get? a = some { cls := .none, data := .fields ps } := x
    show h'.get? a = some { cls := .none, data := .fields ps }
    exact k a _ (.inl rfl) e
  | met f y =>
    have e : h.get? a = some (PySem.W.methodObj (.ref f) (.ref y)) := x
    show h'.get? a = some (PySem.W.methodObj (.ref f) (.ref y))
    exact k a _ (.inl rfl) e
  | ext φ => obtain ⟨p, ⟨o, e⟩, st⟩ := x; exact ⟨st _ _ p fun o q => k _ _ (.inl rfl) q, ⟨o, k _ _ (.inl rfl) e⟩, st⟩
theorem HOk.lt (x : HOk P w H h) (e : H a = some o) : a < h.objs.size := (x a o e).lt
theorem HOk.fresh (x : HOk P w H h) (e : h.objs.size ≤ a) : H a = none := by
  cases q : H a with
  | none => rfl
  | some u => exact absurd (Nat.lt_of_lt_of_le (x.lt q) e) (Nat.lt_irrefl _)
theorem HOk.kept (x : HOk P w H h) (k : ∀ b u, h.get? b = some u → h'.get? b = some u) : HOk P w H h' := fun a o e =>
  (x a o e).stay (fun b u _ q => k b u q) (fun _ q => q) fun _ _ q => q
theorem HOk.laid (x : HOk P w H h) (k : ∀ b u, h.get? b = some u → h'.get? b = some u) (hp : h.objs.size ≤ a) (new : ObjOk P w (upd H a o) h' a o) : HOk P w (upd H a o) h' := fun b u e => by
  have hn := x.fresh hp
  by_cases hb : b = a
  · subst hb; rw [upd_same] at e; cases e; exact new
  · rw [upd_ne hb] at e
    exact (x b u e).stay (fun c v _ q => k c v q) (fun c q => by rw [upd_ne (ne_of_none q hn)]; exact q) fun c xs q => by rw [upd_ne (ne_of_none q hn)]; exact q
end

noncomputable def Rd (H : Hp) (a : Addr) (u : HO) : Prop := H a = some u ∨ ∃ o, H a = some (.frz o u)
theorem Rd.ok {P : Program} {w : World} {H : Hp} {h : Heap} {a : Addr} {u : HO} (r : Rd H a u) (x : HOk P w H h) : ObjOk P w H h a u := by
  rcases r with r | ⟨o, r⟩
  · exact x a u r
  · obtain ⟨_, q⟩ := x a _ r
    exact q
noncomputable def Mut : Option HO → Prop
  | some (.lst _) => True
  | some (.dK _) => True
  | some (.dT _) => True
  | some (.set _ _) => True
  | some (.ins _ _ _) => True
  | some (.ext _) => True
  | _ => False
section
variable {P : Program} {w : World} {H : Hp} {h h' : Heap} {x e : Addr} {o' : HO}
theorem HOk.write (ok : HOk P w H h) (mu : Mut (H x)) (he : e = x ∨ H e = some (.own x)) (k : ∀ b u, b ≠ e → h.get? b = some u → h'.get? b = some u) (heo : ∃ u, h'.get? e = some u)
    (new : ObjOk P w (upd H x o') h' x o') : HOk P w (upd H x o') h' := fun b u q => by
  have nown : ∀ c y, H c = some (.own y) → c ≠ x := fun c y r z => by subst z; rw [r] at mu; exact mu
  have ntup : ∀ c xs, H c = some (.tup xs) → c ≠ x := fun c xs r z => by subst z; rw [r] at mu; exact mu
  by_cases hb : b = x
  · subst hb; rw [upd_same] at q; cases q; exact new
  · rw [upd_ne hb] at q
    by_cases hbe : b = e
    · have q' : H b = some (.own x) := by
        rcases he with z | z
        · exact absurd (hbe.trans z) hb
        · rw [hbe]; exact z
      rw [q] at q'; cases q'
      obtain ⟨v, hv⟩ := heo
      exact ⟨v, by rw [hbe]; exact hv⟩
    · refine (ok b u q).stay (fun c v hc r => k c v ?_ r) (fun c r => by rw [upd_ne (nown c b r)]; exact r) fun c xs r => by rw [upd_ne (ntup c xs r)]; exact r
      rcases hc with rfl | hc
      · exact hbe
      · rintro rfl
        rcases he with z | z
        · exact nown c b hc z
        · rw [hc] at z; cases z; exact hb rfl
end

structure Un (fs ex : List Addr) (H H' : Hp) (h h' : Heap) : Prop where
  keep : ∀ b o, h.get? b = some o → H b = none → b ∉ fs → b ∉ ex → h'.get? b = some o
  slot : ∀ b o, h.get? b = some o → H b = none → b ∈ fs → b ∉ ex → ∃ sl, h'.get? b = some { o with slots := sl }
  free : ∀ b o, h.get? b = some o → H b = none → b ∉ ex → H' b = none
  there : ∀ b o, h.get? b = some o → b ∉ ex → ∃ o', h'.get? b = some o'
  tups : ∀ b xs, H b = some (.tup xs) → H' b = some (.tup xs)
  frzs : ∀ b o u, H b = some (.frz o u) → H' b = some (.frz o u)
  tbls : ∀ b ps, H b = some (.tbl ps) → ∃ more, H' b = some (.tbl (ps ++ more))
section
variable {fs fs' ex ex' : List Addr} {H H1 H2 : Hp} {h h1 h2 h' : Heap} {a x e : Addr} {o : HO}
theorem Un.any (u : Un fs ex H H1 h h1) {b : Addr} {ob : Obj} (q : h.get? b = some ob) (n : H b = none) (hx : b ∉ ex) : ∃ sl, h1.get? b = some { ob with slots := sl } := by
  by_cases hb : b ∈ fs
  · exact u.slot b ob q n hb hx
  · exact ⟨ob.slots, u.keep b ob q n hb hx⟩
theorem Un.kept (k : ∀ b u, h.get? b = some u → h'.get? b = some u) : Un fs ex H H h h' :=
  ⟨fun b ob q _ _ _ => k b ob q, fun b ob q _ _ _ => ⟨ob.slots, k b ob q⟩, fun _ _ _ n _ => n, fun b ob q _ => ⟨ob, k b ob q⟩, fun _ _ q => q, fun _ _ _ q => q, fun _ ps q => ⟨#[], by rw [q]; simp⟩⟩
theorem Un.refl : Un fs ex H H h h := Un.kept fun _ _ q => q
theorem Un.laid (k : ∀ b u, h.get? b = some u → h'.get? b = some u) (hp : h.objs.size ≤ a) (hn : H a = none) : Un fs ex H (upd H a o) h h' where
  keep := fun b u q _ _ _ => k b u q
  slot := fun b u q _ _ _ => ⟨u.slots, k b u q⟩
  free := fun b u q n _ => by rw [upd_ne (Nat.ne_of_lt (Nat.lt_of_lt_of_le (Heap.lt_size q) hp))]; exact n
  there := fun b u q _ => ⟨u, k b u q⟩
  tups := fun b xs q => by rw [upd_ne (ne_of_none q hn)]; exact q
  frzs := fun b u xs q => by rw [upd_ne (ne_of_none q hn)]; exact q
  tbls := fun b ps q => ⟨#[], by rw [upd_ne (ne_of_none q hn), q]; simp⟩
theorem Un.write (mu : Mut (H x)) (he : e = x ∨ H e = some (.own x)) (k : ∀ b u, b ≠ e → h.get? b = some u → h'.get? b = some u) (heo : ∃ u, h'.get? e = some u) : Un fs ex H (upd H x o) h h' := by
  have hx : ∀ b, H b = none → b ≠ x := fun b n z => by subst z; rw [n] at mu; exact mu
  have hb : ∀ b, H b = none → b ≠ e := fun b n z => by
    subst z
    rcases he with r | r
    · exact hx b n r
    · rw [n] at r; cases r
  have hm : ∀ b u, H b = some u → ¬ Mut (some u) → b ≠ x := fun b u q nm z => by subst z; rw [q] at mu; exact nm mu
  refine ⟨fun b u q n _ _ => k b u (hb b n) q, fun b u q n _ _ => ⟨u.slots, k b u (hb b n) q⟩, fun b u q n _ => by rw [upd_ne (hx b n)]; exact n, fun b u q _ => ?_,
    fun b xs q => by rw [upd_ne (hm b _ q fun z => z)]; exact q, fun b u xs q => by rw [upd_ne (hm b _ q fun z => z)]; exact q, fun b ps q => ⟨#[], by rw [upd_ne (hm b _ q fun z => z), q]; simp⟩⟩
  by_cases hbe : b = e
  · subst hbe; exact heo
  · exact ⟨u, k b u hbe q⟩
end

noncomputable def trk (h : Heap) (H : Hp) : List Addr := (List.range h.objs.size).filter fun a => (H a).isSome
noncomputable def hidT (h : Heap) (H : Hp) : Heap := PySem.W.hideAll h (trk h H)
theorem hidT_size (h : Heap) (H : Hp) : (hidT h H).objs.size = h.objs.size := PySem.W.hideAll_size _ _
theorem hidT_get {h : Heap} {H : Hp} {b : Addr} {o : Obj} (e : h.get? b = some o) (n : H b = none) : (hidT h H).get? b = some o :=
  PySem.W.hideAll_get _ e fun hm => by
    have q : (H b).isSome = true := (List.mem_filter.mp hm).2
    rw [n] at q; simp at q
theorem of_hidT {h : Heap} {H : Hp} {b : Addr} {o : Obj} (e : (hidT h H).get? b = some o) : h.get? b = some o ∧ H b = none := by
  have e' : h.get? b = some o := PySem.W.of_hideAll (trk h H) e
  refine ⟨e', ?_⟩
  cases q : H b with
  | none => rfl
  | some x =>
    have hm : b ∈ trk h H := List.mem_filter.mpr ⟨List.mem_range.mpr (Heap.lt_size e'), by simp [q]⟩
    have z : (hidT h H).get? b = none := PySem.W.hideAll_none (trk h H) hm
    rw [z] at e; cases e

end L2

namespace L2
open PySem PySem.Spec PyProof.Rows

structure Mod (K : PySem.W.Frag) (mg : Str → Option Value) (base : Heap) : Prop where
  kin : K.In base
  glob : base.Ns mainGlobals mg
  blt : ∃ mb, base.Ns builtinsNs mb ∧ ∀ x : Str, x ≠ "__name__" → mb x = bootBuiltins x
  nolimit : base.NoLimit

structure Cx where
  prog : Program
  w : World
  K : PySem.W.Frag
  mg : Str → Option Value
  base : Heap
  A : Around
  N : List Str
  s₀ : Shared
  H₀ : Hp
  env : Env
  outer : List Env
  stack : List Env
  ex : List Addr
  fn : Str → Bool
  calm : Bool
  pn : List (Addr × Obj)
  xe : Value → Shared → Prop
noncomputable def frs (l : List Env) : List Addr := l.filterMap (·.frame)
noncomputable abbrev Cx.fs (X : Cx) : List Addr := frs X.outer

noncomputable def Vis (sc : Scope) (x : Str) : Prop := sc.names.lookup x = some .local ∨ sc.names.lookup x = some .cell ∨ sc.names.lookup x = some .free
noncomputable def Loc (sc : Scope) (x : Str) : Prop := sc.names.lookup x = some .local ∨ sc.names.lookup x = some .cell
noncomputable def Look (env : Env) (h : Heap) (m : Str → Option Value) (x : Str) (u : Value) : Prop :=
  (env.kindOf x = some .local ∧ m x = some u) ∨ ((env.kindOf x = some .cell ∨ env.kindOf x = some .free) ∧ ∃ c, env.cells.lookup x = some c ∧ h.IsCell c (some u))

structure Cx.Ok (X : Cx) : Prop where
  mod : Mod X.K X.mg X.base
  kind : X.env.scope.kind = .function
  glob : X.env.globals = mainGlobals
  blt : X.env.builtins = builtinsNs
  above : X.s₀.heap.objs.size ≤ X.env.locals
  inj : ∀ x y c, X.env.cells.lookup x = some c → X.env.cells.lookup y = some c → x = y
  has : ∀ x, (X.env.kindOf x = some .cell ∨ X.env.kindOf x = some .free) → ∃ c, X.env.cells.lookup x = some c
  cab : ∀ x c, X.fn x = true → X.env.cells.lookup x = some c → X.s₀.heap.objs.size ≤ c
  hd : X.calm = true → X.A.handled = none
  frames : X.A.frames = some X.stack
  stk : X.stack = X.outer ∨ (X.stack = X.env :: X.outer ∧ X.env.frame = some X.env.locals)
  exf : ∀ b ∈ X.ex, b ≠ X.env.locals ∧ ∀ x c, X.env.cells.lookup x = some c → c ≠ b
  bs : ∀ b o, X.base.get? b = some o → X.s₀.heap.get? b = some o ∧ X.H₀ b = none
  bsz : X.base.objs.size ≤ X.s₀.heap.objs.size
  noex : ∀ b o, X.base.get? b = some o → b ∉ X.ex
  exfs : ∀ b ∈ X.ex, b ∉ X.fs
  funs : X.s₀.heap.FunFrames X.base X.outer
  frf : ∀ b ∈ X.fs, X.H₀ b = none

structure Inv (X : Cx) (pins : List (Addr × Obj)) (σ : List (Option V)) (H : Hp) (s : Shared) : Prop where
  ok : X.Ok
  os : s.os = X.s₀.os
  bare : AllBare s.gens
  base : Un X.fs X.ex X.H₀ H X.s₀.heap s.heap
  loc : ∃ m, s.heap.Ns X.env.locals m ∧ ∀ (i : Nat) (x : Str) (v : V), X.N[i]? = some x → σ[i]? = some (some v) → Vis X.env.scope x → ∃ u, RelV v u ∧ Look X.env s.heap m x u
  cell : ∀ x c, X.env.cells.lookup x = some c → ∃ v, s.heap.IsCell c v
  free : H X.env.locals = none
  freeC : ∀ x c, X.env.cells.lookup x = some c → H c = none
  pin : ∀ p ∈ X.pn ++ pins, s.heap.get? p.1 = some p.2 ∧ H p.1 = none ∧ p.1 ≠ X.env.locals ∧ p.1 ∉ X.fs ∧ ∀ v, p.2.data ≠ .cell v
  hok : HOk X.prog X.w H s.heap
  len : σ.length = X.N.length

section
variable {X : Cx} {pins : List (Addr × Obj)} {σ : List (Option V)} {H H' : Hp} {s : Shared} {h' : Heap}

theorem Cx.Ok.nofr (ok : X.Ok) {b : Addr} {o : Obj} (e : X.base.get? b = some o) : b ∉ X.fs := fun hb => by
  have := (ok.funs.mem hb).1
  rw [e] at this; cases this
theorem Inv.bs (I : Inv X pins σ H s) : ∀ b o, X.base.get? b = some o → s.heap.get? b = some o ∧ H b = none := fun b o e =>
  ⟨I.base.keep b o (I.ok.bs b o e).1 (I.ok.bs b o e).2 (I.ok.nofr e) (I.ok.noex b o e), I.base.free b o (I.ok.bs b o e).1 (I.ok.bs b o e).2 (I.ok.noex b o e)⟩
theorem Inv.bk (I : Inv X pins σ H s) : ∀ b o, X.base.get? b = some o → s.heap.get? b = some o := fun b o e => (I.bs b o e).1
theorem Inv.mod (I : Inv X pins σ H s) : Mod X.K X.mg X.base := I.ok.mod
theorem Inv.kIn (I : Inv X pins σ H s) : X.K.In s.heap := I.ok.mod.kin.keeps I.bk
theorem Inv.lt (I : Inv X pins σ H s) : X.env.locals < s.heap.objs.size := let ⟨_, hn, _⟩ := I.loc; hn.lt
theorem Inv.sz (I : Inv X pins σ H s) : X.s₀.heap.objs.size ≤ s.heap.objs.size := Nat.le_trans I.ok.above (Nat.le_of_lt I.lt)
theorem Inv.nofs (I : Inv X pins σ H s) {a : Addr} (h : s.heap.objs.size ≤ a) : a ∉ X.fs := fun hb => by
  obtain ⟨_, o, ho, _⟩ := I.ok.funs.mem hb
  exact absurd (Nat.lt_of_lt_of_le (Heap.lt_size ho) (Nat.le_trans I.sz h)) (Nat.lt_irrefl _)
theorem Inv.cne (I : Inv X pins σ H s) : ∀ x c, X.env.cells.lookup x = some c → c ≠ X.env.locals := fun x c e z => by
  obtain ⟨v, o, ho, hd⟩ := I.cell x c e
  obtain ⟨m, ⟨o', es, ep, ho', hd', _⟩, _⟩ := I.loc
  rw [z, ho'] at ho; cases ho; rw [hd'] at hd; cases hd
theorem Inv.funs (I : Inv X pins σ H s) : s.heap.FunFrames X.base X.outer := by
  have all : ∀ (l : List Env), (∀ b ∈ frs l, b ∈ X.fs) → X.s₀.heap.FunFrames X.base l → s.heap.FunFrames X.base l := by
    intro l
    induction l with
    | nil => intro _ _; trivial
    | cons env r ih =>
      intro hs hl
      obtain ⟨hk, ⟨L, o, hf, hn, ho, hd⟩, hr⟩ := hl
      have hL : L ∈ X.fs := hs L (by unfold frs; rw [List.filterMap_cons, hf]; exact List.mem_cons_self)
      obtain ⟨sl, e⟩ := I.base.slot L o ho (I.ok.frf L hL) hL fun z => I.ok.exfs L z hL
      exact ⟨hk, ⟨L, _, hf, hn, e, hd⟩, ih (fun b hb => hs b (by unfold frs; rw [List.filterMap_cons, hf]; exact List.mem_cons_of_mem _ hb)) hr⟩
  exact all X.outer (fun _ hb => hb) I.ok.funs

theorem Inv.stack (I : Inv X pins σ H s) : s.heap.FunFrames X.base X.stack := by
  rcases I.ok.stk with e | ⟨e, hf⟩
  · rw [e]; exact I.funs
  · rw [e]
    obtain ⟨m, hn, _⟩ := I.loc
    refine .cons (by rw [I.ok.kind]; decide) hf hn ?_ I.funs
    exact Heap.get?_none_of_le (Nat.le_trans I.ok.bsz I.ok.above)
theorem Inv.stkSub (I : Inv X pins σ H s) : ∀ b ∈ frs X.stack, b ∈ X.env.locals :: X.fs := fun b hb => by
  rcases I.ok.stk with e | ⟨e, hf⟩
  · rw [e] at hb; exact List.mem_cons_of_mem _ hb
  · rw [e] at hb
    unfold frs at hb
    rw [List.filterMap_cons, hf] at hb
    exact hb
theorem Inv.stkFree (I : Inv X pins σ H s) : ∀ b ∈ frs X.stack, H b = none := fun b hb => by
  rcases List.mem_cons.mp (I.stkSub b hb) with e | hb
  · rw [e]; exact I.free
  · obtain ⟨_, o, ho, _⟩ := I.ok.funs.mem hb
    exact I.base.free b o ho (I.ok.frf b hb) fun z => I.ok.exfs b z hb

theorem Inv.step {g' : Array GenState} {t' : Nat} {d' : Drawn} {ch : List Addr} (I : Inv X pins σ H s)
    (hch : ∀ b ∈ ch, (b ∈ X.ex ∨ X.s₀.heap.objs.size ≤ b) ∧ b ≠ X.env.locals ∧ (∀ x c, X.env.cells.lookup x = some c → c ≠ b) ∧ ∀ p ∈ X.pn ++ pins, p.1 ≠ b)
    (keep : ∀ b o, b ≠ X.env.locals → b ∉ X.fs → b ∉ ch → s.heap.get? b = some o → H b = none → h'.get? b = some o)
    (slot : ∀ b o, b ≠ X.env.locals → b ∈ X.fs → b ∉ ch → s.heap.get? b = some o → H b = none → ∃ sl, h'.get? b = some { o with slots := sl }) (free : ∀ b o, b ∉ ch → s.heap.get? b = some o → H b = none → H' b = none)
    (there : ∀ b o, b ∉ ch → s.heap.get? b = some o → ∃ o', h'.get? b = some o')
    (tups : ∀ b xs, H b = some (.tup xs) → H' b = some (.tup xs)) (frzs : ∀ b o u, H b = some (.frz o u) → H' b = some (.frz o u)) (tbls : ∀ b ps, H b = some (.tbl ps) → ∃ more, H' b = some (.tbl (ps ++ more)))
    (ns : ∀ m, s.heap.Ns X.env.locals m → h'.Ns X.env.locals m) (hok : HOk X.prog X.w H' h') (hg : AllBare g') :
    Inv X pins σ H' { s with heap := h', gens := g', drawn := d', toks := t' } := by
  have neL : ∀ b o, X.s₀.heap.get? b = some o → b ≠ X.env.locals := fun b o e => Nat.ne_of_lt (Nat.lt_of_lt_of_le (Heap.lt_size e) I.ok.above)
  have neC : ∀ b o, X.s₀.heap.get? b = some o → b ∉ X.ex → b ∉ ch := fun b o e hx hb => by
    rcases (hch b hb).1 with z | z
    · exact hx z
    · exact absurd (Nat.lt_of_lt_of_le (Heap.lt_size e) z) (Nat.lt_irrefl _)
  have cellK : ∀ x c, X.env.cells.lookup x = some c → ∀ v, s.heap.IsCell c v → h'.IsCell c v := fun x c e v ⟨o, ho, hd⟩ => by
    have nch : c ∉ ch := fun z => (hch c z).2.2.1 x c e rfl
    by_cases hc : c ∈ X.fs
    · obtain ⟨sl, q⟩ := slot c o (I.cne x c e) hc nch ho (I.freeC x c e)
      exact ⟨_, q, hd⟩
    · exact ⟨o, keep c o (I.cne x c e) hc nch ho (I.freeC x c e), hd⟩
  refine ⟨I.ok, I.os, hg, ⟨fun b o e n hb hx => ?_, fun b o e n hb hx => ?_, fun b o e n hx => ?_, fun b o e hx => ?_, fun b xs e => tups b xs (I.base.tups b xs e), fun b o xs e => frzs b o xs (I.base.frzs b o xs e), fun b ps e => ?_⟩, ?_, fun x c e => ?_, ?_, fun x c e => ?_, fun p hp => ?_, hok, I.len⟩
  · exact keep b o (neL b o e) hb (neC b o e hx) (I.base.keep b o e n hb hx) (I.base.free b o e n hx)
  · obtain ⟨sl, e1⟩ := I.base.slot b o e n hb hx
    obtain ⟨sl', e2⟩ := slot b _ (neL b o e) hb (neC b o e hx) e1 (I.base.free b o e n hx)
    exact ⟨sl', e2⟩
  · obtain ⟨o', e1⟩ := I.base.there b o e hx
    exact free b o' (neC b o e hx) e1 (I.base.free b o e n hx)
  · obtain ⟨o', e1⟩ := I.base.there b o e hx
    exact there b o' (neC b o e hx) e1
  · obtain ⟨m1, e1⟩ := I.base.tbls b ps e
    obtain ⟨m2, e2⟩ := tbls b _ e1
    exact ⟨m1 ++ m2, by rw [e2, Array.append_assoc]⟩
  · obtain ⟨m, hn, hl⟩ := I.loc
    refine ⟨m, ns m hn, fun i x v e1 e2 e3 => ?_⟩
    obtain ⟨u, r, l⟩ := hl i x v e1 e2 e3
    refine ⟨u, r, ?_⟩
    rcases l with l | ⟨k, c, e, z⟩
    · exact .inl l
    · exact .inr ⟨k, c, e, cellK x c e _ z⟩
  · obtain ⟨v, z⟩ := I.cell x c e
    exact ⟨v, cellK x c e v z⟩
  · obtain ⟨m, ⟨o, _, _, ho, _⟩, _⟩ := I.loc
    exact free _ o (fun z => (hch _ z).2.1 rfl) ho I.free
  · obtain ⟨v, o, ho, hd⟩ := I.cell x c e
    exact free c o (fun z => (hch c z).2.2.1 x c e rfl) ho (I.freeC x c e)
  · obtain ⟨e, n, ne, nf, d⟩ := I.pin p hp
    have nch : p.1 ∉ ch := fun z => (hch p.1 z).2.2.2 p hp rfl
    exact ⟨keep p.1 p.2 ne nf nch e n, free p.1 p.2 nch e n, ne, nf, d⟩
theorem Inv.un {t' : Nat} (I : Inv X pins σ H s) (u : Un X.fs [] H H' s.heap h') (hok : HOk X.prog X.w H' h') : Inv X pins σ H' { s with heap := h', toks := t' } := by
  obtain ⟨m, ⟨o, es, ep, ho, r⟩, _⟩ := id I.loc
  obtain ⟨sl, hL⟩ := u.any ho I.free (by simp)
  exact I.step (g' := s.gens) (d' := s.drawn) (ch := []) (fun _ z => nomatch z) (fun b o _ hb _ e n => u.keep b o e n hb (by simp)) (fun b o _ hb _ e n => u.slot b o e n hb (by simp)) (fun b o _ e n => u.free b o e n (by simp)) (fun b o _ e => u.there b o e (by simp)) u.tups u.frzs u.tbls (fun m' hm => by
    obtain ⟨o', es', ep', ho', r'⟩ := hm
    rw [ho] at ho'; cases ho'
    exact ⟨_, es', ep', hL, r'⟩) hok I.bare
theorem Inv.call {g' : Array GenState} {t' : Nat} {d' : Drawn} {ch : List Addr} (I : Inv X pins σ H s) (u : Un (frs X.stack) ch H H' s.heap h') (hok : HOk X.prog X.w H' h') (hg : AllBare g')
    (hch : ∀ b ∈ ch, (b ∈ X.ex ∨ X.s₀.heap.objs.size ≤ b) ∧ b ≠ X.env.locals ∧ (∀ x c, X.env.cells.lookup x = some c → c ≠ b) ∧ ∀ p ∈ X.pn ++ pins, p.1 ≠ b) :
    Inv X pins σ H' { s with heap := h', gens := g', drawn := d', toks := t' } := by
  obtain ⟨m, ⟨o, es, ep, ho, r⟩, _⟩ := id I.loc
  obtain ⟨sl, hL⟩ := u.any ho I.free fun z => (hch _ z).2.1 rfl
  exact I.step (ch := ch) hch (fun b o hL hb hc e n => u.keep b o e n (fun z => (List.mem_cons.mp (I.stkSub b z)).elim hL hb) hc) (fun b o _ _ hc e n => u.any e n hc) (fun b o hc e n => u.free b o e n hc) (fun b o hc e => u.there b o e hc) u.tups u.frzs u.tbls (fun m' hm => by
    obtain ⟨o', es', ep', ho', r'⟩ := hm
    rw [ho] at ho'; cases ho'
    exact ⟨_, es', ep', hL, r'⟩) hok hg
theorem Inv.turned {t' : Nat} {it : Addr} (I : Inv X pins σ H s) (k : ∀ b o, b ≠ it → s.heap.get? b = some o → h'.get? b = some o) (hn : H it = none) (hL : it ≠ X.env.locals)
    (h1 : it ∈ X.ex ∨ X.s₀.heap.objs.size ≤ it) (h2 : ∀ x c, X.env.cells.lookup x = some c → c ≠ it) (h3 : ∀ p ∈ X.pn ++ pins, p.1 ≠ it) : Inv X pins σ H { s with heap := h', toks := t' } := by
  have nit : ∀ b u, H b = some u → b ≠ it := fun b u e z => by rw [z, hn] at e; cases e
  refine I.step (g' := s.gens) (d' := s.drawn) (ch := [it]) (fun b hb => ?_) (fun b o _ _ hc e _ => k b o (fun z => hc (by simp [z])) e) (fun b o _ _ hc e _ => ⟨o.slots, k b o (fun z => hc (by simp [z])) e⟩) (fun _ _ _ _ n => n)
    (fun b o hc e => ⟨o, k b o (fun z => hc (by simp [z])) e⟩) (fun _ _ e => e) (fun _ _ _ e => e) (fun b ps e => ⟨#[], by rw [e]; simp⟩) (fun m hm => ?_) (fun b u e => ?_) I.bare
  · have e : b = it := by simpa using hb
    subst e
    exact ⟨h1, hL, h2, h3⟩
  · obtain ⟨o, es, ep, ho, r⟩ := hm
    exact ⟨o, es, ep, k _ o (Ne.symm hL) ho, r⟩
  · refine (I.hok b u e).stay (fun c v hc q => k c v ?_ q) (fun _ q => q) fun _ _ q => q
    rcases hc with z | z
    · rw [z]; exact nit b u e
    · exact nit c _ z
theorem Inv.tok (I : Inv X pins σ H s) (t : Nat) : Inv X pins σ H { s with toks := t } := I.un (h' := s.heap) (t' := t) Un.refl I.hok
theorem Inv.kept {t' : Nat} (I : Inv X pins σ H s) (k : ∀ b u, s.heap.get? b = some u → h'.get? b = some u) : Inv X pins σ H { s with heap := h', toks := t' } := I.un (Un.kept k) (I.hok.kept k)
theorem Inv.laid {a : Addr} {o : HO} {t' : Nat} (I : Inv X pins σ H s) (k : ∀ b u, s.heap.get? b = some u → h'.get? b = some u) (hp : s.heap.objs.size ≤ a) (new : ObjOk X.prog X.w (upd H a o) h' a o) :
    Inv X pins σ (upd H a o) { s with heap := h', toks := t' } := I.un (Un.laid k hp (I.hok.fresh hp)) (I.hok.laid k hp new)
theorem Inv.write {x e : Addr} {o : HO} {t' : Nat} (I : Inv X pins σ H s) (mu : Mut (H x)) (he : e = x ∨ H e = some (.own x)) (k : ∀ b u, b ≠ e → s.heap.get? b = some u → h'.get? b = some u) (heo : ∃ u, h'.get? e = some u)
    (new : ObjOk X.prog X.w (upd H x o) h' x o) : Inv X pins σ (upd H x o) { s with heap := h', toks := t' } := I.un (Un.write mu he k heo) (I.hok.write mu he k heo new)
theorem Inv.pins_of {pins' : List (Addr × Obj)} (I : Inv X pins σ H s) (h : ∀ p ∈ pins', s.heap.get? p.1 = some p.2 ∧ H p.1 = none ∧ p.1 ≠ X.env.locals ∧ p.1 ∉ X.fs ∧ ∀ v, p.2.data ≠ .cell v) : Inv X pins' σ H s :=
  ⟨I.ok, I.os, I.bare, I.base, I.loc, I.cell, I.free, I.freeC, fun p hp => (List.mem_append.mp hp).elim (fun z => I.pin p (List.mem_append_left _ z)) (h p), I.hok, I.len⟩

theorem nodup_ix {N : List Str} (hN : N.Nodup) {i j : Nat} {x : Str} (a : N[i]? = some x) (b : N[j]? = some x) : i = j := by
  obtain ⟨h1, e1⟩ := List.getElem?_eq_some_iff.mp a
  obtain ⟨h2, e2⟩ := List.getElem?_eq_some_iff.mp b
  exact (List.getElem_inj hN).mp (e1.trans e2.symm)

theorem store_ok2 {M : Model} {A : Around} {E : Value → Shared → Prop} {i : Nat} {x : Str} {v : V} {u : Value} {Q : Unit → Shared → Prop} (I : Inv X pins σ H s) (hN : X.N.Nodup) (hi : X.N[i]? = some x) (hx : Loc X.env.scope x) (r : RelV v u)
    (h : ∀ s', Inv X pins (σ.set i (some v)) H s' → (∃ a, Heap.SameBut a s.heap s'.heap ∧ (a = X.env.locals ∨ X.env.cells.lookup x = some a)) → Q () s') (hf : X.fn x = true ∨ X.env.scope.names.lookup x = some .local := by first | exact .inl rfl | exact .inr rfl | assumption) : wpAny M A (storeName X.env x u) Q E s := by
  obtain ⟨m, hn, hl⟩ := id I.loc
  have hcls : (X.env.scope.kind == .class || (X.env.scope.kind == .module && X.env.locals != X.env.globals)) = false := by rw [I.ok.kind]; rfl
  have hiσ : i < σ.length := by rw [I.len]; exact (List.getElem?_eq_some_iff.mp hi).1
  have cne := I.cne
  have tracked : ∀ {a : Addr} {h' : Heap}, (∃ o, s.heap.get? a = some o ∧ H a = none) → Heap.SameBut a s.heap h' → HOk X.prog X.w H h' := fun {a h'} ha hs b ob e => by
    obtain ⟨_, _, hfree⟩ := ha
    refine (I.hok b ob e).stay (fun c w' hc q => (hs.2 c ?_).trans q) (fun _ q => q) fun _ _ q => q
    rintro rfl
    rcases hc with rfl | hc
    · rw [hfree] at e; cases e
    · rw [hfree] at hc; cases hc
  rcases hx with hk | hk
  · refine wpAny_storeName_local hk hn (fun h' hn' hs => ?_) hcls
    obtain ⟨oL, _, _, hoL, _⟩ := id hn
    refine h _ ⟨I.ok, I.os, I.bare, ⟨fun b o e n hb hx => ?_, fun b o e n hb hx => ?_, I.base.free, fun b o e hx => ?_, I.base.tups, I.base.frzs, I.base.tbls⟩, ⟨_, hn', fun j y v' e1 e2 e3 => ?_⟩, fun y c e => ?_, I.free, I.freeC, fun p hp => ?_, tracked ⟨oL, hoL, I.free⟩ hs, by simpa using I.len⟩ ⟨_, hs, .inl rfl⟩
    · exact (hs.2 b (Nat.ne_of_lt (Nat.lt_of_lt_of_le (Heap.lt_size e) I.ok.above))).trans (I.base.keep b o e n hb hx)
    · obtain ⟨sl, e1⟩ := I.base.slot b o e n hb hx
      exact ⟨sl, (hs.2 b (Nat.ne_of_lt (Nat.lt_of_lt_of_le (Heap.lt_size e) I.ok.above))).trans e1⟩
    · obtain ⟨o', e1⟩ := I.base.there b o e hx
      exact ⟨o', (hs.2 b (Nat.ne_of_lt (Nat.lt_of_lt_of_le (Heap.lt_size e) I.ok.above))).trans e1⟩
    · by_cases hj : j = i
      · subst hj
        rw [hi] at e1; cases e1
        rw [List.getElem?_set_self hiσ] at e2
        cases e2
        exact ⟨u, r, .inl ⟨hk, by simp⟩⟩
      · rw [List.getElem?_set_ne (Ne.symm hj)] at e2
        obtain ⟨u', r', q⟩ := hl j y v' e1 e2 e3
        refine ⟨u', r', ?_⟩
        rcases q with ⟨k, e⟩ | ⟨k, c, e, z⟩
        · refine .inl ⟨k, ?_⟩
          have : y ≠ x := fun e => hj (nodup_ix hN e1 (e ▸ hi))
          simp [this, e]
        · exact .inr ⟨k, c, e, z.sameBut hs (cne y c e)⟩
    · obtain ⟨w', z⟩ := I.cell y c e
      exact ⟨w', z.sameBut hs (cne y c e)⟩
    · obtain ⟨e, n, ne, nf, d⟩ := I.pin p hp
      exact ⟨(hs.2 p.1 ne).trans e, n, ne, nf, d⟩
  · have hfn : X.fn x = true := by
      rcases hf with z | z
      · exact z
      · rw [z] at hk; cases hk
    obtain ⟨c, hc⟩ := I.ok.has x (.inl hk)
    obtain ⟨w', z⟩ := I.cell x c hc
    refine wpAny_storeName_cell I.ok.kind hk hc z (fun h' hc' hs => ?_)
    obtain ⟨oc, hoc, hocd⟩ := id z
    refine h { s with heap := h' } ⟨I.ok, I.os, I.bare, ⟨fun b o e n hb hx => ?_, fun b o e n hb hx => ?_, I.base.free, fun b o e hx => ?_, I.base.tups, I.base.frzs, I.base.tbls⟩, ⟨m, hn.sameBut hs (Ne.symm (cne x c hc)), fun j y v' e1 e2 e3 => ?_⟩, fun y c' e => ?_, I.free, I.freeC, fun p hp => ?_, tracked ⟨oc, hoc, I.freeC x c hc⟩ hs, by simpa using I.len⟩ ⟨c, hs, .inr hc⟩
    · exact (hs.2 b (Nat.ne_of_lt (Nat.lt_of_lt_of_le (Heap.lt_size e) (I.ok.cab x c hfn hc)))).trans (I.base.keep b o e n hb hx)
    · obtain ⟨sl, e1⟩ := I.base.slot b o e n hb hx
      exact ⟨sl, (hs.2 b (Nat.ne_of_lt (Nat.lt_of_lt_of_le (Heap.lt_size e) (I.ok.cab x c hfn hc)))).trans e1⟩
    · obtain ⟨o', e1⟩ := I.base.there b o e hx
      exact ⟨o', (hs.2 b (Nat.ne_of_lt (Nat.lt_of_lt_of_le (Heap.lt_size e) (I.ok.cab x c hfn hc)))).trans e1⟩
    · by_cases hj : j = i
      · subst hj
        rw [hi] at e1; cases e1
        rw [List.getElem?_set_self hiσ] at e2
        cases e2
        exact ⟨u, r, .inr ⟨.inl hk, c, hc, hc'⟩⟩
      · rw [List.getElem?_set_ne (Ne.symm hj)] at e2
        obtain ⟨u', r', q⟩ := hl j y v' e1 e2 e3
        refine ⟨u', r', ?_⟩
        rcases q with q | ⟨k, c', e, z'⟩
        · exact .inl q
        · refine .inr ⟨k, c', e, z'.sameBut hs ?_⟩
          rintro rfl
          exact hj (nodup_ix hN e1 (I.ok.inj _ _ _ e hc ▸ hi))
    · by_cases hcc : c' = c
      · subst hcc; exact ⟨_, hc'⟩
      · obtain ⟨w2, z2⟩ := I.cell y c' e
        exact ⟨w2, z2.sameBut hs hcc⟩
    · obtain ⟨e, n, ne, nf, d⟩ := I.pin p hp
      refine ⟨(hs.2 p.1 ?_).trans e, n, ne, nf, d⟩
      intro q
      rw [q, hoc] at e
      have q' : oc = p.2 := Option.some.inj e
      exact d w' (by rw [← q']; exact hocd)
theorem store_ok {M : Model} {A : Around} {E : Value → Shared → Prop} {i : Nat} {x : Str} {v : V} {u : Value} {Q : Unit → Shared → Prop} (I : Inv X pins σ H s) (hN : X.N.Nodup) (hi : X.N[i]? = some x) (hx : Loc X.env.scope x) (r : RelV v u)
    (h : ∀ s', Inv X pins (σ.set i (some v)) H s' → Q () s') (hf : X.fn x = true ∨ X.env.scope.names.lookup x = some .local := by first | exact .inl rfl | exact .inr rfl | assumption) : wpAny M A (storeName X.env x u) Q E s :=
  store_ok2 I hN hi hx r (fun s' I' _ => h s' I') hf
theorem Inv.call' {s' : Shared} {ch : List Addr} (I : Inv X pins σ H s) (ho : s'.os = s.os) (u : Un (frs X.stack) ch H H' s.heap s'.heap) (hok : HOk X.prog X.w H' s'.heap) (hg : AllBare s'.gens)
    (hch : ∀ b ∈ ch, (b ∈ X.ex ∨ X.s₀.heap.objs.size ≤ b) ∧ b ≠ X.env.locals ∧ (∀ x c, X.env.cells.lookup x = some c → c ≠ b) ∧ ∀ p ∈ X.pn ++ pins, p.1 ≠ b) : Inv X pins σ H' s' := by
  obtain ⟨h', g', d', t', o'⟩ := s'
  have e : o' = s.os := ho
  subst e
  exact I.call (g' := g') (t' := t') (d' := d') u hok hg hch
end

noncomputable abbrev XK := Value → Option Addr → Hp → Prop
noncomputable abbrev St := List (Option V)
noncomputable abbrev VK := V → Hp → Prop
noncomputable abbrev TE := St → Hp → VK → Prop
noncomputable abbrev TT := St → Hp → (Bool → Hp → Prop) → Prop
noncomputable abbrev TA := St → Hp → (List V → Hp → Prop) → Prop
structure Ends where
  nx : St → Hp → Prop
  rt : VK
  bk : St → Hp → Prop := fun _ _ => False
  ct : St → Hp → Prop := fun _ _ => False
noncomputable abbrev TS := Ends → St → Hp → Prop

noncomputable def EP (X : Cx) (pins : List (Addr × Obj)) (σ : St) (Q : VK) (u : Value) (s' : Shared) : Prop := ∃ v H', Inv X pins σ H' s' ∧ RelV v u ∧ Q v H'
noncomputable def TP (X : Cx) (pins : List (Addr × Obj)) (σ : St) (Q : Bool → Hp → Prop) (b : Bool) (s' : Shared) : Prop := ∃ H', Inv X pins σ H' s' ∧ Q b H'
noncomputable def AP (X : Cx) (pins : List (Addr × Obj)) (σ : St) (Q : List V → Hp → Prop) (us : List Value) (s' : Shared) : Prop := ∃ vs H', Inv X pins σ H' s' ∧ Vals vs us ∧ Q vs H'
noncomputable def SP (X : Cx) (pins : List (Addr × Obj)) (D : Ends) (f : Flow) (s' : Shared) : Prop :=
  match f with
  | .next => ∃ σ' H', Inv X pins σ' H' s' ∧ D.nx σ' H'
  | .brk => ∃ σ' H', Inv X pins σ' H' s' ∧ D.bk σ' H'
  | .cont => ∃ σ' H', Inv X pins σ' H' s' ∧ D.ct σ' H'
  | .ret u => ∃ v σ' H', Inv X pins σ' H' s' ∧ RelV v u ∧ D.rt v H'

noncomputable def PE (X : Cx) (e : Expr) (t : TE) : Prop :=
  ∀ (pins : List (Addr × Obj)) (s : Shared) (σ : St) (H : Hp) (Q : VK), Inv X pins σ H s → t σ H Q → wpAny (model X.prog X.w) X.A (eval e X.env) (EP X pins σ Q) X.xe s
noncomputable def PT (X : Cx) (e : Expr) (t : TT) : Prop :=
  ∀ (pins : List (Addr × Obj)) (s : Shared) (σ : St) (H : Hp) (Q : Bool → Hp → Prop), Inv X pins σ H s → t σ H Q → wpAny (model X.prog X.w) X.A (isTrue e X.env (eval e X.env)) (TP X pins σ Q) X.xe s
noncomputable def PW (X : Cx) (e : Expr) (t : TT) : Prop :=
  ∀ (whole : Sem Value) (pins : List (Addr × Obj)) (s : Shared) (σ : St) (H : Hp) (Q : Bool → Hp → Prop), Inv X pins σ H s → t σ H Q → wpAny (model X.prog X.w) X.A (isTrue e X.env whole) (TP X pins σ Q) X.xe s
theorem PW.pt {X : Cx} {e : Expr} {t : TT} (h : PW X e t) : PT X e t := h _
noncomputable def PA (X : Cx) (es : List Expr) (t : TA) : Prop :=
  ∀ (pos : Pos) (pins : List (Addr × Obj)) (s : Shared) (σ : St) (H : Hp) (Q : List V → Hp → Prop), Inv X pins σ H s → t σ H Q → wpAny (model X.prog X.w) X.A (spliced (backTo pos (starEach es X.env))) (AP X pins σ Q) X.xe s
noncomputable def PS (X : Cx) (st : Stmt) (t : TS) : Prop :=
  ∀ (pins : List (Addr × Obj)) (s : Shared) (σ : St) (H : Hp) (D : Ends), Inv X pins σ H s → t D σ H → wpAny (model X.prog X.w) X.A (exec st X.env) (SP X pins D) X.xe s
noncomputable def PSs (X : Cx) (st : List Stmt) (t : TS) : Prop :=
  ∀ (pins : List (Addr × Obj)) (s : Shared) (σ : St) (H : Hp) (D : Ends), Inv X pins σ H s → t D σ H → wpAny (model X.prog X.w) X.A (execs st X.env) (SP X pins D) X.xe s
theorem thn {α : Type} {t : Sem α} {Q Q' : α → Shared → Prop} {M : Model} {A : Around} {E : Value → Shared → Prop} {s : Shared} (h : wpAny M A t Q E s) (hQ : ∀ a s, Q a s → Q' a s) : wpAny M A t Q' E s := wpAny_mono h hQ fun _ _ x => x
end L2

namespace L2
open PySem PySem.Spec PyProof.Rows
section
variable {X : Cx}

theorem bin {a b : Expr} {ta tb : TE} (ha : PE X a ta) (hb : PE X b tb) {pins : List (Addr × Obj)} {s : Shared} {σ : St} {H : Hp} {R : V → V → Hp → Prop} (I : Inv X pins σ H s) (h : ta σ H fun x H1 => tb σ H1 fun y H2 => R x y H2)
    {α : Type} {Q : α → Shared → Prop} {f : Value → Value → Sem α}
    (hf : ∀ v u s2 x y H2, Inv X pins σ H2 s2 → RelV x v → RelV y u → R x y H2 → wpAny (model X.prog X.w) X.A (f v u) Q X.xe s2) :
    wpAny (model X.prog X.w) X.A (eval a X.env) (fun v s₁ => wpAny (model X.prog X.w) X.A (eval b X.env) (fun u s₂ => wpAny (model X.prog X.w) X.A (f v u) Q X.xe s₂) X.xe s₁) X.xe s := by
  refine thn (ha pins s σ H _ I h) fun v s1 ⟨x, H1, I1, r1, q1⟩ => ?_
  refine thn (hb pins s1 σ H1 _ I1 q1) fun u s2 ⟨y, H2, I2, r2, q2⟩ => ?_
  exact hf v u s2 x y H2 I2 r1 r2 q2

inductive IsBl (x : V) (H : Hp) (Q : Bool → Hp → Prop) : Prop
  | mk (k : Bool) (h0 : x = .bl k) (h1 : Q k H) : IsBl x H Q
inductive PtVar (i : Nat) (σ : St) (H : Hp) (Q : VK) : Prop
  | mk (v : _) (h0 : σ[i]? = some (some v)) (h1 : Q v H) : PtVar i σ H Q
noncomputable def tVar (i : Nat) : TE := fun σ H Q => PtVar i σ H Q
noncomputable def tC (v : V) : TE := fun _ H Q => Q v H
theorem pe_var {i : Nat} {x : Str} {pos : Pos} (hN : X.N[i]? = some x) (hv : Vis X.env.scope x) (hd : (x == ("__debug__" : Str)) = false := by decide) (hcd : (x == ("__classdict__" : Str)) = false := by decide) : PE X (.Name x pos) (tVar i) := by
  intro pins s σ H Q I h
  obtain ⟨v, e, h⟩ := h
  obtain ⟨m, hn, hl⟩ := I.loc
  obtain ⟨u, r, l⟩ := hl i x v hN e hv
  have fin : EP X pins σ Q u s := ⟨v, H, I, r, h⟩
  rcases l with ⟨hk, hm⟩ | ⟨hk, c, hc, hcell⟩
  · exact wpAny_Name (wpAny_loadName_local I.ok.kind hk hn hm fin) hd
  · rcases hk with hk | hk
    · exact wpAny_Name (wpAny_loadName_cell I.ok.kind hk hc hcell fin) hd
    · exact wpAny_Name (wpAny_loadName_free I.ok.kind hk hc hcell fin hcd) hd
theorem pe_int {i j pos} : PE X (.Constant (.int i) j pos) (tC (.int i)) := fun _ _ _ H _ I h => wpAny_Constant_int ⟨.int i, H, I.tok _, ⟨_, rfl⟩, h⟩
theorem pe_bl {b j pos} : PE X (.Constant (.bool b) j pos) (tC (.bl b)) := fun _ _ _ H _ I h => Constant_bool ⟨.bl b, H, I, rfl, h⟩
theorem pe_str {x j pos} : PE X (.Constant (.str x) j pos) (tC (.str x)) := fun _ _ _ H _ I h => Calls.Constant_str ⟨.str x, H, I.tok _, ⟨_, rfl⟩, h⟩

noncomputable def Gl (X : Cx) (x : Str) : Prop := X.env.kindOf x = some .globalImplicit
theorem ld_glob {E : Value → Shared → Prop} {pins : List (Addr × Obj)} {s : Shared} {σ : St} {H : Hp} {x : Str} {u : Value} {pos : Pos} {Q : Value → Shared → Prop} (I : Inv X pins σ H s) (hg : Gl X x) (hm : X.mg x = some u) (h : Q u s)
    (hd : (x == ("__debug__" : Str)) = false := by decide) : wpAny (model X.prog X.w) X.A (eval (.Name x pos) X.env) Q E s :=
  Calls.Name_function_global I.ok.kind hg (Calls.loadGlobal_global (by rw [I.ok.glob]; exact I.mod.glob.keeps I.bk) hm h) hd
theorem ld_blt {E : Value → Shared → Prop} {pins : List (Addr × Obj)} {s : Shared} {σ : St} {H : Hp} {x : Str} {u : Value} {pos : Pos} {Q : Value → Shared → Prop} (I : Inv X pins σ H s) (hg : Gl X x) (hm : X.mg x = none) (hv : bootBuiltins x = some u) (h : Q u s)
    (hn : x ≠ "__name__" := by decide) (hd : (x == ("__debug__" : Str)) = false := by decide) : wpAny (model X.prog X.w) X.A (eval (.Name x pos) X.env) Q E s := by
  obtain ⟨mb, h1, h2⟩ := I.mod.blt
  exact Calls.Name_function_global I.ok.kind hg (Calls.loadGlobal_builtin (by rw [I.ok.glob]; exact I.mod.glob.keeps I.bk) hm (by rw [I.ok.blt]; exact h1.keeps I.bk) ((h2 x hn).trans hv) h) hd
theorem pe_glob {x : Str} {v : V} {u : Value} {pos : Pos} (hg : Gl X x) (hm : X.mg x = some u) (r : RelV v u) (hd : (x == ("__debug__" : Str)) = false := by decide) : PE X (.Name x pos) (tC v) :=
  fun _ _ _ H _ I h => ld_glob I hg hm ⟨v, H, I, r, h⟩ hd

variable {a b : Expr} {ta tb : TE} {pos : Pos}

noncomputable def PC (X : Cx) (op : CmpOp) (a b : Expr) (t : TE) : Prop :=
  ∀ (pins : List (Addr × Obj)) (s : Shared) (σ : St) (H : Hp) (Q : VK), Inv X pins σ H s → t σ H Q →
    wpAny (model X.prog X.w) X.A (eval a X.env) (fun v s₁ => wpAny (model X.prog X.w) X.A (eval b X.env) (fun u s₂ => wpAny (model X.prog X.w) X.A (compareOp op v u) (EP X pins σ Q) X.xe s₂) X.xe s₁) X.xe s
noncomputable def tB (t : TE) : TT := fun σ H Q => t σ H fun x H1 => IsBl x H1 Q
theorem pt_cmp {op : CmpOp} {t : TE} (h : PC X op a b t) (h1 : behindInMarks op b = false := by first | exact nobehind _ (by decide) (by decide) | rfl) : PT X (.Compare a [op] [b] pos) (tB t) := by
  intro pins s σ H Q I hw
  refine wpAny_isTrue_Compare1 (thn (h pins s σ H _ I hw) fun v s1 h1 => thn h1 fun u s2 h2 => thn h2 fun c s3 ⟨x, H1, I1, r1, q1⟩ => ?_) h1
  obtain ⟨d, rfl, q⟩ := q1
  cases r1
  exact wpAny_truthy_bool ⟨H1, I1, q⟩

variable {tA tB' : TT} {rest : List Expr}
noncomputable def tAnd (t u : TT) : TT := fun σ H Q => t σ H fun c H1 => if c = true then u σ H1 Q else Q false H1
noncomputable def tOr (t u : TT) : TT := fun σ H Q => t σ H fun c H1 => if c = true then Q true H1 else u σ H1 Q
noncomputable def tNot (t : TT) : TT := fun σ H Q => t σ H fun c H1 => Q (!c) H1
theorem pw_and1 (ha : PT X a tA) : PW X (.BoolOp .And [a] pos) tA := by
  intro wh pins s σ H Q I h
  refine isTrue_and (thn (ha pins s σ H Q I h) fun c s1 e => ?_)
  cases c with
  | true => exact isTrue_and_nil e
  | false => exact e
theorem pw_or1 (ha : PT X a tA) : PW X (.BoolOp .Or [a] pos) tA := by
  intro wh pins s σ H Q I h
  refine isTrue_or (thn (ha pins s σ H Q I h) fun c s1 e => ?_)
  cases c with
  | false => exact isTrue_or_nil e
  | true => exact e
theorem pw_and (ha : PT X a tA) (hb : PW X (.BoolOp .And (b :: rest) pos) tB') : PW X (.BoolOp .And (a :: b :: rest) pos) (tAnd tA tB') := by
  intro wh pins s σ H Q I h
  refine isTrue_and (thn (ha pins s σ H _ I h) fun c s1 ⟨H1, I1, q1⟩ => ?_)
  cases c with
  | true => exact hb wh pins s1 σ H1 Q I1 q1
  | false => exact ⟨H1, I1, q1⟩
theorem pw_or (ha : PT X a tA) (hb : PW X (.BoolOp .Or (b :: rest) pos) tB') : PW X (.BoolOp .Or (a :: b :: rest) pos) (tOr tA tB') := by
  intro wh pins s σ H Q I h
  refine isTrue_or (thn (ha pins s σ H _ I h) fun c s1 ⟨H1, I1, q1⟩ => ?_)
  cases c with
  | true => exact ⟨H1, I1, q1⟩
  | false => exact hb wh pins s1 σ H1 Q I1 q1
theorem pt_not (ha : PT X a tA) : PT X (.UnaryOp .Not a pos) (tNot tA) := by
  intro pins s σ H Q I h
  exact isTrue_not (ha pins s σ H (fun c H1 => Q (!c) H1) I h)
noncomputable def tOrV (ta tb : TE) : TE := fun σ H Q => ta σ H fun x H1 => ∃ c, x = .bl c ∧ if c = true then Q (.bl true) H1 else tb σ H1 Q
theorem pe_one {op} {t : TE} (h : PE X a t) : PE X (.BoolOp op [a] pos) t := fun pins s σ H Q I hw => BoolOp_one (h pins s σ H Q I hw)
theorem pe_or (ha : PE X a ta) (hb : PE X (.BoolOp .Or (b :: rest) pos) tb) : PE X (.BoolOp .Or (a :: b :: rest) pos) (tOrV ta tb) := by
  intro pins s σ H Q I h
  refine BoolOp_or (thn (ha pins s σ H _ I h) fun v s1 ⟨x, H1, I1, r1, q1⟩ => ?_)
  obtain ⟨c, rfl, q1⟩ := q1
  cases r1
  refine wpAny_truthy_bool ?_
  cases c with
  | false => exact hb pins s1 σ H1 Q I1 q1
  | true => exact ⟨.bl true, H1, I1, rfl, q1⟩
noncomputable def tIf (t : TT) (ta tb : TE) : TE := fun σ H Q => t σ H fun c H1 => if c = true then ta σ H1 Q else tb σ H1 Q
theorem pe_ifExp {c : Expr} (hc : PT X c tA) (ha : PE X a ta) (hb : PE X b tb) : PE X (.IfExp c a b pos) (tIf tA ta tb) := by
  intro pins s σ H Q I h
  refine wpAny_IfExp (thn (hc pins s σ H _ I h) fun d s1 ⟨H1, I1, q1⟩ => ?_)
  cases d with
  | true => exact ha pins s1 σ H1 Q I1 q1
  | false => exact hb pins s1 σ H1 Q I1 q1
end
end L2

namespace L2
open PySem PySem.Spec PyProof.Rows

noncomputable def SqL (K : PySem.W.Frag) (H : Hp) (a : Addr) (xs : List V) : Prop :=
  Rd H a (.lst xs) ∨
    ∃ (o : Obj) (its : Array Value) (n : Nat), K.lookup a = some o ∧ o.cls = .type "list" ∧ o.dict = none ∧ o.data = .seq its n ∧ its.size ≤ sizeLine ∧ Vals xs its.toList
noncomputable def SqT (K : PySem.W.Frag) (H : Hp) (a : Addr) (xs : List V) : Prop :=
  Rd H a (.tup xs) ∨
    ∃ (o : Obj) (its : Array Value) (n : Nat), K.lookup a = some o ∧ o.cls = .type "tuple" ∧ o.data = .seq its n ∧ its.size ≤ sizeLine ∧ Vals xs its.toList
noncomputable def absV : Value → Option V
  | .none => some .non
  | .bool b => some (.bl b)
  | .int i _ => some (.int i)
  | .str x _ => some (.str x)
  | .bytes b _ => some (.byt b)
  | .float b _ => some (.flt b)
  | .ref a => some (.ref a)
  | .type n => some (.ty n)
  | _ => none
theorem RelV.abs {x : V} {u : Value} (r : RelV x u) : absV u = some x := by
  cases x with
  | non => cases r; rfl
  | bl _ => cases r; rfl
  | int _ => obtain ⟨t, rfl⟩ := r; rfl
  | str _ => obtain ⟨t, rfl⟩ := r; rfl
  | byt _ => obtain ⟨t, rfl⟩ := r; rfl
  | flt _ => obtain ⟨t, rfl⟩ := r; rfl
  | ref _ => cases r; rfl
  | ty _ => cases r; rfl
theorem RelV.inj {x y : V} {u : Value} (r : RelV x u) (q : RelV y u) : x = y := Option.some.inj (r.abs.symm.trans q.abs)
theorem Vals.inj : ∀ {xs ys : List V} {us : List Value}, Vals xs us → Vals ys us → xs = ys
  | _, _, _, .nil, .nil => rfl
  | _, _, _, .cons r t, .cons r' t' => by rw [r.inj r', Vals.inj t t']
section
variable {X : Cx} {pins : List (Addr × Obj)} {σ : St} {H : Hp} {s : Shared} {a : Addr} {xs ys : List V}
theorem SqL.of {K : PySem.W.Frag} (h : H a = some (.lst xs)) : SqL K H a xs := .inl (.inl h)
theorem SqT.of {K : PySem.W.Frag} (h : H a = some (.tup xs)) : SqT K H a xs := .inl (.inl h)
theorem Inv.list (I : Inv X pins σ H s) (h : SqL X.K H a xs) : ∃ its : List Value, Vals xs its ∧ PlainL s.heap a its.toArray ∧ xs.length ≤ sizeLine := by
  rcases h with h | ⟨o, its, n, hk, hc, hd, hs, hz, r⟩
  · obtain ⟨z, its, n, r, e⟩ := h.ok I.hok
    exact ⟨its, r, ⟨_, n, e, rfl, rfl, rfl⟩, z⟩
  · refine ⟨its.toList, r, ⟨o, n, I.kIn a o hk, hc, hd, by simpa using hs⟩, ?_⟩
    have e := r.length
    simp only [Array.length_toList] at e
    (first | lia | omega)
theorem Inv.tuple (I : Inv X pins σ H s) (h : SqT X.K H a xs) : ∃ its : List Value, Vals xs its ∧ IsTup s.heap a its.toArray ∧ xs.length ≤ sizeLine := by
  rcases h with h | ⟨o, its, n, hk, hc, hs, hz, r⟩
  · obtain ⟨z, its, r, p⟩ := h.ok I.hok
    exact ⟨its, r, p, z⟩
  · refine ⟨its.toList, r, ⟨o, I.kIn a o hk, hc, n, by simpa using hs⟩, ?_⟩
    have e := r.length
    simp only [Array.length_toList] at e
    (first | lia | omega)
theorem Inv.list_inj (I : Inv X pins σ H s) (h : SqL X.K H a xs) (h' : SqL X.K H a ys) : xs = ys := by
  obtain ⟨its, r, ⟨o, n, e, _, _, d⟩, _⟩ := I.list h
  obtain ⟨its', r', ⟨o', n', e', _, _, d'⟩, _⟩ := I.list h'
  rw [e] at e'; cases e'
  rw [d] at d'
  injection d' with d1 _
  have : its = its' := by simpa using congrArg Array.toList d1
  subst this
  exact r.inj r'
end

noncomputable abbrev Cx.wish (X : Cx) (E : Value → Shared → Prop) : Cx := { X with xe := E }
theorem Cx.Ok.wish {X : Cx} (ok : X.Ok) (E : Value → Shared → Prop) : (X.wish E).Ok :=
  ⟨ok.mod, ok.kind, ok.glob, ok.blt, ok.above, ok.inj, ok.has, ok.cab, ok.hd, ok.frames, ok.stk, ok.exf, ok.bs, ok.bsz, ok.noex, ok.exfs, ok.funs, ok.frf⟩
theorem Cx.Ok.unwish {X : Cx} {E : Value → Shared → Prop} (ok : (X.wish E).Ok) : X.Ok :=
  ⟨ok.mod, ok.kind, ok.glob, ok.blt, ok.above, ok.inj, ok.has, ok.cab, ok.hd, ok.frames, ok.stk, ok.exf, ok.bs, ok.bsz, ok.noex, ok.exfs, ok.funs, ok.frf⟩
section
variable {X : Cx} {pins : List (Addr × Obj)} {σ : St} {H : Hp} {s : Shared} {E : Value → Shared → Prop}
theorem Inv.wish (I : Inv X pins σ H s) (E : Value → Shared → Prop) : Inv (X.wish E) pins σ H s := ⟨I.ok.wish E, I.os, I.bare, I.base, I.loc, I.cell, I.free, I.freeC, I.pin, I.hok, I.len⟩
theorem Inv.unwish (I : Inv (X.wish E) pins σ H s) : Inv X pins σ H s := ⟨I.ok.unwish, I.os, I.bare, I.base, I.loc, I.cell, I.free, I.freeC, I.pin, I.hok, I.len⟩
end

section
variable {X : Cx} {st : Stmt} {rest : List Stmt} {t u : TS} {e : Expr} {te : TE} {pos : Pos}
noncomputable def tNext : TS := fun D σ H => D.nx σ H
noncomputable def tSeq (t u : TS) : TS := fun D σ H => t { D with nx := u D } σ H
theorem pss_nil : PSs X [] tNext := fun _ _ σ H _ I h => wpAny_execs_nil ⟨σ, H, I, h⟩
theorem pss_cons (h1 : PS X st t) (h2 : PSs X rest u) : PSs X (st :: rest) (tSeq t u) := by
  intro pins s σ H D I h
  refine wpAny_execs_cons (thn (h1 pins s σ H { D with nx := u D } I h) fun f s1 q => ?_)
  cases f with
  | next =>
    obtain ⟨σ', H', I', q⟩ := q
    exact h2 pins s1 σ' H' D I' q
  | ret v => exact q
  | brk => exact q
  | cont => exact q
theorem pss_one (h1 : PS X st t) : PSs X [st] t := by
  intro pins s σ H D I h
  refine wpAny_execs_cons (thn (h1 pins s σ H D I h) fun f s1 q => ?_)
  cases f with
  | next => exact wpAny_execs_nil q
  | ret v => exact q
  | brk => exact q
  | cont => exact q
theorem Inv.quiet {pins : List (Addr × Obj)} {σ : St} {H : Hp} {s : Shared} (I : Inv X pins σ H s) : interactive X.env = false := by simp [interactive, I.ok.kind]
noncomputable def tDrop (te : TE) : TS := fun D σ H => te σ H fun _ H1 => D.nx σ H1
theorem ps_expr (he : PE X e te) (hs : swapsWith e none pos.line X.env = pure false := by rfl) : PS X (.Expr e pos) (tDrop te) := by
  intro pins s σ H D I h
  exact wpAny_Expr_any (thn (he pins s σ H _ I h) fun v s1 ⟨x, H1, I1, r1, q1⟩ => ⟨σ, H1, I1, q1⟩) I.quiet hs
noncomputable def tRet (te : TE) : TS := fun D σ H => te σ H D.rt
theorem ps_ret (he : PE X e te) : PS X (.Return (some e) pos) (tRet te) := by
  intro pins s σ H D I h
  exact wpAny_Return_some (thn (he pins s σ H _ I h) fun v s1 ⟨x, H1, I1, r1, q1⟩ => ⟨x, σ, H1, I1, r1, q1⟩)
noncomputable def tIfS (c : TT) (t u : TS) : TS := fun D σ H => c σ H fun b H1 => if b = true then t D σ H1 else u D σ H1
theorem ps_if {c : Expr} {a b : List Stmt} {tc : TT} (hc : PT X c tc) (ha : PSs X a t) (hb : PSs X b u) : PS X (.If c a b pos) (tIfS tc t u) := by
  intro pins s σ H D I h
  refine wpAny_If (thn (hc pins s σ H _ I h) fun d s1 ⟨H1, I1, q1⟩ => ?_)
  cases d with
  | true => exact ha pins s1 σ H1 D I1 q1
  | false => exact hb pins s1 σ H1 D I1 q1
end

noncomputable abbrev TG := V → St → Hp → (St → Hp → Prop) → Prop
noncomputable abbrev TGs := List V → St → Hp → (St → Hp → Prop) → Prop
noncomputable def PG (X : Cx) (target : Expr) (t : TG) : Prop :=
  ∀ (pins : List (Addr × Obj)) (s : Shared) (σ : St) (H : Hp) (v : V) (u : Value) (Q : St → Hp → Prop), Inv X pins σ H s → RelV v u → t v σ H Q →
    wpAny (model X.prog X.w) X.A (assign target X.env u) (fun _ s' => ∃ σ' H', Inv X pins σ' H' s' ∧ Q σ' H') X.xe s
noncomputable def PGs (X : Cx) (ts : List Expr) (t : TGs) : Prop :=
  ∀ (pins : List (Addr × Obj)) (s : Shared) (σ : St) (H : Hp) (vs : List V) (us : List Value) (Q : St → Hp → Prop), Inv X pins σ H s → Vals vs us → t vs σ H Q →
    wpAny (model X.prog X.w) X.A (assignInOrder ((assignEach ts X.env).map (·.2)) us) (fun _ s' => ∃ σ' H', Inv X pins σ' H' s' ∧ Q σ' H') X.xe s
noncomputable abbrev TSet := V → V → V → Hp → (Hp → Prop) → Prop
noncomputable def PSet (X : Cx) (t : TSet) : Prop :=
  ∀ (pins : List (Addr × Obj)) (s : Shared) (σ : St) (H : Hp) (o i v : V) (ov iv u : Value) (Q : Hp → Prop), Inv X pins σ H s → RelV o ov → RelV i iv → RelV v u → t o i v H Q →
    wpAny (model X.prog X.w) X.A (setItem ov iv u) (fun _ s' => ∃ H', Inv X pins σ H' s' ∧ Q H') X.xe s
section
variable {X : Cx} {pos : Pos}
noncomputable def gName (i : Nat) : TG := fun v σ H Q => Q (σ.set i (some v)) H
theorem pg_name {i : Nat} {x : Str} (hN : X.N.Nodup) (hi : X.N[i]? = some x) (hx : Loc X.env.scope x) (hf : X.fn x = true ∨ X.env.scope.names.lookup x = some .local := by first | exact .inl rfl | exact .inr rfl | assumption) : PG X (.Name x pos) (gName i) := by
  intro pins s σ H v u Q I r h
  exact wpAny_assign_Name (store_ok I hN hi hx r (fun s' I' => ⟨_, H, I', h⟩) hf)
noncomputable def gNil : TGs := fun vs σ H Q => vs = [] ∧ Q σ H
inductive PgCons (t : TG) (u : TGs) (vs : List V) (σ : St) (H : Hp) (Q : (St → Hp → Prop)) : Prop
  | mk (v r : _) (h0 : vs = v :: r) (h1 : t v σ H fun σ' H' => u r σ' H' Q) : PgCons t u vs σ H Q
noncomputable def gCons (t : TG) (u : TGs) : TGs := fun vs σ H Q => PgCons t u vs σ H Q
theorem pgs_nil : PGs X [] gNil := by
  intro pins s σ H vs us Q I r h
  obtain ⟨e, h⟩ := h
  subst e
  cases r
  exact assignInOrder_nil ⟨σ, H, I, h⟩
theorem pgs_cons {e : Expr} {es : List Expr} {t : TG} {u : TGs} (h1 : PG X e t) (h2 : PGs X es u)
    (hs : (assignEach (e :: es) X.env).map (·.2) = assign e X.env :: (assignEach es X.env).map (·.2) := by rfl) : PGs X (e :: es) (gCons t u) := by
  intro pins s σ H vs us Q I r h
  obtain ⟨v, vr, e1, h⟩ := h
  subst e1
  cases r with
  | cons r rr =>
    rw [hs]
    refine assignInOrder_cons (thn (h1 pins s σ H _ _ _ I r h) fun _ s1 ⟨σ1, H1, I1, q1⟩ => ?_)
    exact h2 pins s1 σ1 H1 _ _ Q I1 rr q1
inductive PgTup (K : PySem.W.Frag) (n : Nat) (t : TGs) (v : V) (σ : St) (H : Hp) (Q : (St → Hp → Prop)) : Prop
  | mk (a xs : _) (h0 : v = .ref a) (h1 : SqT K H a xs) (h2 : xs.length = n) (h3 : t xs σ H Q) : PgTup K n t v σ H Q
noncomputable def gTup (K : PySem.W.Frag) (n : Nat) (t : TGs) : TG := fun v σ H Q => PgTup K n t v σ H Q
theorem pg_tup {es : List Expr} {k : Nat} {t : TGs} {n : Nat} (hc : X.calm = true) (h : PGs X es t)
    (hn : (assignEach es X.env).length = n := by rfl) (hst : (assignEach es X.env).findIdx? (·.1) = none := by rfl) : PG X (.Tuple es k pos) (gTup X.K n t) := by
  intro pins s σ H v u Q I r hw
  obtain ⟨a, xs, e1, hq, hl, hw⟩ := hw
  subst e1
  cases r
  obtain ⟨its, rv, ht, hz⟩ := I.tuple hq
  refine assign_Tuple_tuple (I.ok.hd hc) ht (by simp [hn, ← hl, rv.length]) hst fun h' hx => ?_
  have I1 : Inv X pins σ H { s with heap := h' } := I.kept (t' := s.toks) fun b o e => hx b o (Nat.ne_of_lt (Heap.lt_size e)) e
  exact h pins _ σ H xs _ Q I1 (by simpa using rv) hw
noncomputable def gSub (to ti : TE) (t : TSet) : TG := fun v σ H Q => to σ H fun o H1 => ti σ H1 fun i H2 => t o i v H2 fun H3 => Q σ H3
theorem pg_sub {o i : Expr} {to ti : TE} {t : TSet} (ho : PE X o to) (hi : PE X i ti) (hs : PSet X t)
    (ha : ∀ v, assign (.Subscript o i pos) X.env v = (do
      let ov ← holding [v] (eval o X.env)
      let iv ← holding [v, ov] (eval i X.env)
      standAt pos
      holding [v, ov, iv] (setItem ov iv v)
      release [v, ov, iv] []) := by intro _; rfl) : PG X (.Subscript o i pos) (gSub to ti t) := by
  intro pins s σ H v u Q I r h
  rw [ha]
  refine wpAny_bind (wpAny_holding (thn (ho pins s σ H _ I h) fun ov s1 ⟨x, H1, I1, r1, q1⟩ => ?_))
  refine wpAny_bind (wpAny_holding (thn (hi pins s1 σ H1 _ I1 q1) fun iv s2 ⟨y, H2, I2, r2, q2⟩ => ?_))
  refine wpAny_bind (wpAny_standAt (wpAny_bind (wpAny_holding (thn (hs pins s2 σ H2 x y v ov iv u _ I2 r1 r2 r q2) fun _ s3 ⟨H3, I3, q3⟩ => ?_))))
  exact wpAny_release ⟨σ, H3, I3, q3⟩
noncomputable def tAsg (te : TE) (g : TG) : TS := fun D σ H => te σ H fun x H1 => g x σ H1 D.nx
theorem ps_asg {tg e : Expr} {te : TE} {g : TG} (he : PE X e te) (hg : PG X tg g) (hs : swapsWithSole [tg] e pos.line X.env = pure false := by rfl) (hw : swappedStores [tg] e X.env = pure none := by rfl)
    (h1 : (assignEach [tg] X.env).map (·.2) = [assign tg X.env] := by rfl) : PS X (.Assign [tg] e pos) (tAsg te g) := by
  intro pins s σ H D I h
  refine wpAny_Assign_stores (thn (he pins s σ H _ I h) fun v s1 ⟨x, H1, I1, r1, q1⟩ => ?_) hs hw
  rw [h1]
  exact thn (hg pins s1 σ H1 x v _ I1 r1 q1) fun _ s2 q => q
theorem ps_set {i : Nat} {x : Str} {e : Expr} {te : TE} {pos' : Pos} (hN : X.N.Nodup) (hi : X.N[i]? = some x) (hx : Loc X.env.scope x) (he : PE X e te) (hs : swapsWith e (some (.Name x pos')) pos.line X.env = pure false := by rfl) (hf : X.fn x = true ∨ X.env.scope.names.lookup x = some .local := by first | exact .inl rfl | exact .inr rfl | assumption) :
    PS X (.Assign [.Name x pos'] e pos) (tAsg te (gName i)) := by
  intro pins s σ H D I h
  refine wpAny_Assign_Name (thn (he pins s σ H _ I h) fun v s1 ⟨y, H1, I1, r1, q1⟩ => ?_) hs
  exact store_ok I1 hN hi hx r1 (fun s2 I2 => ⟨_, H1, I2, q1⟩) hf
end

section
variable {X : Cx} {pos : Pos}
noncomputable def tWhile (c : TT) (tb : TS) : TS := fun D σ H => ∃ W : Nat → St → Hp → Prop, (∃ m, W m σ H) ∧ ∀ m σ H, W m σ H →
  c σ H fun b H1 => if b = true then ∃ N : St → Hp → Prop, (∀ σ' H', N σ' H' → ∃ m', m' < m ∧ W m' σ' H') ∧ tb { D with nx := N, ct := N, bk := D.nx } σ H1 else D.nx σ H1
theorem ps_while {c : Expr} {body : List Stmt} {tc : TT} {tb : TS} (hp : PassesOwn (model X.prog X.w) X.A X.env X.xe) (hc : PT X c tc) (hb : PSs X body tb) : PS X (.While c body [] pos) (tWhile tc tb) := by
  intro pins s σ H D I h
  obtain ⟨W, ⟨m0, w0⟩, turn⟩ := h
  refine wpAny_While (codeAny_whileLoop (fun n s' => ∃ σ' H', Inv X pins σ' H' s' ∧ W n σ' H') ?_ m0 ⟨σ, H, I, w0⟩)
  rintro n s1 ⟨σ1, H1, I1, w1⟩
  refine wpAny_passesOwn hp (thn (hc pins s1 σ1 H1 _ I1 (turn n σ1 H1 w1)) fun b s2 ⟨H2, I2, q2⟩ => ?_)
  cases b with
  | true =>
    obtain ⟨N, hN, q2⟩ := q2
    rw [if_pos rfl]
    refine wpAny_passesOwn hp (thn (hb pins s2 σ1 H2 _ I2 q2) fun f s3 q3 => ?_)
    cases f with
    | next =>
      obtain ⟨σ3, H3, I3, n3⟩ := q3
      obtain ⟨m', hm, w3⟩ := hN σ3 H3 n3
      exact ⟨m', hm, σ3, H3, I3, w3⟩
    | cont =>
      obtain ⟨σ3, H3, I3, n3⟩ := q3
      obtain ⟨m', hm, w3⟩ := hN σ3 H3 n3
      exact ⟨m', hm, σ3, H3, I3, w3⟩
    | brk => exact q3
    | ret v => exact q3
  | false =>
    rw [if_neg Bool.false_ne_true]
    exact wpAny_execs_nil ⟨σ1, H2, I2, q2⟩
end

structure It where
  go : Nat → Hp → Prop
  yld : Nat → Hp → V → Hp → Prop
  stop : Nat → Hp → Prop
noncomputable def FpOk (X : Cx) (pins : List (Addr × Obj)) (H : Hp) (b : Addr) : Prop :=
  H b = none ∧ b ≠ X.env.locals ∧ b ∉ X.fs ∧ (b ∈ X.ex ∨ X.s₀.heap.objs.size ≤ b) ∧ (∀ x c, X.env.cells.lookup x = some c → c ≠ b) ∧ ∀ p ∈ X.pn ++ pins, p.1 ≠ b
theorem Inv.fpOk {X : Cx} {pins : List (Addr × Obj)} {σ : St} {H H' : Hp} {s : Shared} {b : Addr} (I : Inv X pins σ H s) (hb : s.heap.objs.size ≤ b) (hn : H' b = none) : FpOk X pins H' b := by
  refine ⟨hn, Nat.ne_of_gt (Nat.lt_of_lt_of_le I.lt hb), I.nofs hb, .inr (Nat.le_trans I.sz hb), fun x c e z => ?_, fun p hp z => ?_⟩
  · obtain ⟨v, q⟩ := I.cell x c e
    exact absurd (Nat.lt_of_lt_of_le q.lt (by rw [z]; exact hb)) (Nat.lt_irrefl _)
  · exact absurd (Nat.lt_of_lt_of_le (Heap.lt_size (I.pin p hp).1) (by rw [z]; exact hb)) (Nat.lt_irrefl _)
structure Turn (P : Program) (w : World) (K : PySem.W.Frag) (tg : Expr) (J : It) (fp : List Addr) (it : Addr) (tn : Nat → Heap → Prop) : Prop where
  mem : it ∈ fp
  obj : ∀ i h, tn i h → ∀ b ∈ fp, ∃ o, h.get? b = some o ∧ ∀ v, o.data ≠ .cell v
  keep : ∀ i h h', tn i h → (∀ b ∈ fp, ∀ o, h.get? b = some o → h'.get? b = some o) → tn i h'
  item : ∀ (X : Cx), X.prog = P → X.w = w → X.K = K → X.calm = true → ∀ (i : Nat) (pins : List (Addr × Obj)) (s : Shared) (σ : St) (H : Hp) (E : Value → Shared → Prop), Inv X pins σ H s → (∀ b ∈ fp, FpOk X pins H b) → tn i s.heap → J.go i H →
    wpAny (model P w) X.A (pyNext (.ref it)) (fun r s1 => ∃ u, r = some u ∧
      wpAny (model P w) X.A (letOwnedTupleGo tg (.ref it) u) (fun _ s2 => ∃ x H', Inv X pins σ H' s2 ∧ RelV x u ∧ J.yld i H x H' ∧ tn (i + 1) s2.heap ∧ ∀ b ∈ fp, H' b = none) E s1) E s
  done : ∀ (X : Cx), X.prog = P → X.w = w → X.K = K → X.calm = true → ∀ (i : Nat) (pins : List (Addr × Obj)) (s : Shared) (σ : St) (H : Hp) (E : Value → Shared → Prop), Inv X pins σ H s → (∀ b ∈ fp, FpOk X pins H b) → tn i s.heap → J.stop i H →
    wpAny (model P w) X.A (pyNext (.ref it)) (fun r s1 => r = none ∧ Inv X pins σ H s1) E s
  self : ∀ (A : Around) (i : Nat) (s : Shared) (Q : Value → Shared → Prop) (E : Value → Shared → Prop), tn i s.heap → Q (.ref it) s → wpAny (model P w) A (pyIter (.ref it)) Q E s
noncomputable abbrev TI := St → Hp → (It → Hp → Prop) → Prop
noncomputable def PIE (X : Cx) (pins : List (Addr × Obj)) (σ : St) (tg : Expr) (R : It → Hp → Prop) (itv : Value) (s2 : Shared) : Prop :=
  ∃ (it : Addr) (fp : List Addr) (tn : Nat → Heap → Prop) (J : It) (H' : Hp), itv = .ref it ∧ Inv X pins σ H' s2 ∧ Turn X.prog X.w X.K tg J fp it tn ∧ tn 0 s2.heap ∧ (∀ b ∈ fp, FpOk X pins H' b) ∧ R J H'
noncomputable def PI (X : Cx) (tg iter : Expr) (wi : TI) : Prop :=
  ∀ (pins : List (Addr × Obj)) (s : Shared) (σ : St) (H : Hp) (R : It → Hp → Prop), Inv X pins σ H s → wi σ H R →
    wpAny (model X.prog X.w) X.A (eval iter X.env) (fun v s1 => wpAny (model X.prog X.w) X.A (pyIter v) (PIE X pins σ tg R) X.xe s1) X.xe s

theorem go_of {M : Model} {A : Around} {E : Value → Shared → Prop} {s : Shared} {tg : Expr} {it : Addr} {u : Value} {o : Obj} {n : String} {vs : Array Value} {Q : Unit → Shared → Prop} (ho : s.heap.get? it = some o) (hc : o.cls = .type n) (hd : o.data = .fields vs)
    (hn : ["enumerate", "zip", "dict_itemiterator", "dict_reverseitemiterator", "odict_iterator", "itertools.zip_longest", "itertools.pairwise"].contains n = false) (hQ : Q () s) : wpAny M A (letOwnedTupleGo tg (.ref it) u) Q E s := by
  unfold letOwnedTupleGo
  cases tg <;> first
    | exact wpAny_pure hQ
    | (cases u <;> first
        | exact wpAny_pure hQ
        | (refine wpAny_bind (wpAny_load ho ?_)
           rw [hc, hd]
           show wpAny M A (if (["enumerate", "zip", "dict_itemiterator", "dict_reverseitemiterator", "odict_iterator", "itertools.zip_longest", "itertools.pairwise"].contains n && vs[0]? == some (rawInt _)) = true then _ else _) Q E s
           rw [if_neg (by intro h; rw [hn, Bool.false_and] at h; cases h)]
           exact wpAny_pure hQ))

noncomputable def Itl (K : PySem.W.Frag) (a : Addr) : It :=
  ⟨fun i H => ∃ xs x, SqL K H a xs ∧ xs[i]? = some x, fun i H x H' => H' = H ∧ ∀ xs, SqL K H a xs → xs[i]? = some x, fun i H => ∃ xs, SqL K H a xs ∧ xs.length ≤ i⟩
noncomputable def Itr (lo : Int) (n : Nat) : It := ⟨fun i _ => i < n, fun i H x H' => H' = H ∧ x = .int (lo + i), fun i _ => n ≤ i⟩
theorem turn_list {P : Program} {w : World} {K : PySem.W.Frag} {tg : Expr} (a it : Addr) : Turn P w K tg (Itl K a) [it] it (fun i h => h.IsListIter it a i) where
  mem := by simp
  obj := fun i h st b hb => by
    have e : b = it := by simpa using hb
    subst e
    obtain ⟨o, e, c, d⟩ := st
    exact ⟨o, e, fun v z => by rw [d] at z; cases z⟩
  keep := fun i h h' st k => st.at fun o e => k it (by simp) o e
  item := by
    intro X hP hw hK hc i pins s σ H E I hf st hg
    subst hP hw hK
    obtain ⟨xs, x, hq, hx⟩ := hg
    obtain ⟨its, rv, p, hz⟩ := I.list hq
    obtain ⟨u, hu, ru⟩ := rv.get hx
    obtain ⟨f0, f1, f2, f3, f4, f5⟩ := hf it (by simp)
    refine wpAny_pyNext_list_item st p.isList (x := u) (by simpa using hu) fun h' st' sb => ?_
    have I1 : Inv X pins σ H { s with heap := h' } := I.turned (t' := s.toks) (fun b o hb e => (sb.2 b hb).trans e) f0 f1 f3 f4 f5
    obtain ⟨o, e, c, d⟩ := id st'
    exact ⟨u, rfl, go_of (s := { s with heap := h' }) e c d (by decide) ⟨x, H, I1, ru, ⟨rfl, fun ys hy => by rw [I.list_inj hy hq]; exact hx⟩, st', fun b hb => (hf b hb).1⟩⟩
  done := by
    intro X hP hw hK hc i pins s σ H E I hf st hg
    subst hP hw hK
    obtain ⟨xs, hq, hx⟩ := hg
    obtain ⟨its, rv, p, hz⟩ := I.list hq
    obtain ⟨f0, f1, f2, f3, f4, f5⟩ := hf it (by simp)
    have hl := rv.length
    exact wpAny_pyNext_list_end (I.ok.hd hc) st p.isList (by simp; (first | lia | omega)) fun h' eb => ⟨rfl, I.turned (t' := s.toks) (fun b o hb e => eb b o hb e) f0 f1 f3 f4 f5⟩
  self := fun _ _ _ _ _ st h => wpAny_pyIter_listiter st h
theorem turn_range {P : Program} {w : World} {K : PySem.W.Frag} {tg : Expr} (it : Addr) (lo : Int) (n : Nat) : Turn P w K tg (Itr lo n) [it] it (fun i h => IsRangeIter h it (lo + (i : Nat) * 1) ((n : Int) - (i : Nat)) 1) where
  mem := by simp
  obj := fun i h st b hb => by
    have e : b = it := by simpa using hb
    subst e
    exact ⟨_, st, fun v z => by
      have z' : Data.fields _ = Data.cell v := z
      cases z'⟩
  keep := fun i h h' st k => k it (by simp) _ st
  item := by
    intro X hP hw hK hc i pins s σ H E I hf st hg
    subst hP hw hK
    obtain ⟨f0, f1, f2, f3, f4, f5⟩ := hf it (by simp)
    have W := Walks.range (prog := X.prog) (w := X.w) (I.ok.hd hc) it lo 1 n
    refine W.item i s _ _ hg st fun v h' tk hv st' kk => ?_
    obtain ⟨t, rfl⟩ := hv
    have I1 : Inv X pins σ H { s with heap := h', toks := tk } := I.turned (fun b o hb e => kk b o (by simpa using hb) e) f0 f1 f3 f4 f5
    refine ⟨_, rfl, go_of (s := { s with heap := h', toks := tk }) (n := "range_iterator") st' rfl rfl (by decide) ⟨.int (lo + i), H, I1, ⟨t, ?_⟩, ⟨rfl, rfl⟩, st', fun b hb => (hf b hb).1⟩⟩
    rw [Int.mul_one]
  done := by
    intro X hP hw hK hc i pins s σ H E I hf st hg
    subst hP hw hK
    obtain ⟨f0, f1, f2, f3, f4, f5⟩ := hf it (by simp)
    exact wpAny_pyNext_range_end (I.ok.hd hc) st (by have : n ≤ i := hg; (first | lia | omega)) fun h' eb => ⟨rfl, I.turned (t' := s.toks) (fun b o hb e => eb b o hb e) f0 f1 f3 f4 f5⟩
  self := fun _ _ _ _ _ st h => wpAny_pyIter_rangeiter st h
end L2

namespace L2
open PySem PySem.Spec PyProof.Rows
section
variable {X : Cx} {tg : Expr}
inductive PiList (K : PySem.W.Frag) (x : V) (H : Hp) (R : It → Hp → Prop) : Prop
  | mk (a : Addr) (h0 : x = .ref a) (h1 : ∃ xs, SqL K H a xs) (h2 : R (Itl K a) H) : PiList K x H R
noncomputable def iList (K : PySem.W.Frag) (tl : TE) : TI := fun σ H R => tl σ H fun x H1 => PiList K x H1 R
theorem pi_list {l : Expr} {tl : TE} (hl : PE X l tl) : PI X tg l (iList X.K tl) := by
  intro pins s σ H R I h
  refine thn (hl pins s σ H _ I h) fun v s1 ⟨x, H1, I1, r1, q1⟩ => ?_
  obtain ⟨a, e, ⟨xs, hq⟩, q⟩ := q1
  subst e
  cases r1
  obtain ⟨its, rv, p, hz⟩ := I1.list hq
  refine wpAny_pyIter_list p.isList ?_
  refine ⟨s1.heap.objs.size, [s1.heap.objs.size], _, _, H1, rfl, I1.kept (t' := s1.toks) fun b o e => Heap.get?_push_of_some _ e, turn_list a _, ⟨_, Heap.get?_push_size _ rfl, rfl, rfl⟩, fun b hb => ?_, q⟩
  have e : b = s1.heap.objs.size := by simpa using hb
  subst e
  exact I1.fpOk (Nat.le_refl _) (I1.hok.fresh (Nat.le_refl _))
theorem range_it {pins : List (Addr × Obj)} {σ : St} {H : Hp} {s : Shared} {R : It → Hp → Prop} {E : Value → Shared → Prop} {lo hi : Int} {t u v : Tok} {tk : Nat} (I : Inv X pins σ H s) (h1 : -(2 ^ 62) ≤ lo) (h2 : lo < 2 ^ 62) (h3 : -(2 ^ 62) ≤ hi) (h4 : hi < 2 ^ 62)
    (q : R (Itr lo (hi - lo).toNat) H) : wpAny (model X.prog X.w) X.A (pyIter (.ref s.heap.objs.size)) (PIE X pins σ tg R) E { s with heap := s.heap.push { cls := .type "range", data := .fields #[.int lo t, .int hi u, .int 1 v] }, toks := tk } := by
  refine wpAny_pyIter_range (IsRange.new ..) (small_one h1 h2 h3 h4) ?_
  have I1 : Inv X pins σ H { s with heap := s.heap.push { cls := .type "range", data := .fields #[.int lo t, .int hi u, .int 1 v] }, toks := tk } := I.kept fun b o e => Heap.get?_push_of_some _ e
  refine ⟨(s.heap.push { cls := .type "range", data := .fields #[.int lo t, .int hi u, .int 1 v] }).objs.size, [(s.heap.push { cls := .type "range", data := .fields #[.int lo t, .int hi u, .int 1 v] }).objs.size], _, _, H, rfl,
    I1.kept (t' := tk) fun b o e => Heap.get?_push_of_some _ e, turn_range _ lo (hi - lo).toNat, ?_, fun b hb => ?_, q⟩
  · have e1 : lo + ((0 : Nat) : Int) * 1 = lo := by simp
    have e2 : (((hi - lo).toNat : Nat) : Int) - ((0 : Nat) : Int) = Builtin.Range.rangeSize lo hi 1 := by rw [rangeSize_one]; split <;> (first | lia | omega)
    show IsRangeIter _ _ (lo + ((0 : Nat) : Int) * 1) ((((hi - lo).toNat : Nat) : Int) - ((0 : Nat) : Int)) 1
    rw [e1, e2]
    exact Heap.get?_push_size _ rfl
  · have e : b = (s.heap.push { cls := .type "range", data := .fields #[.int lo t, .int hi u, .int 1 v] }).objs.size := by simpa using hb
    subst e
    exact I1.fpOk (Nat.le_refl _) (I1.hok.fresh (Nat.le_refl _))
noncomputable def iRng1 (ta : TA) : TI := fun σ H R => ta σ H fun vs H1 => ∃ j : Int, vs = [.int j] ∧ -(2 ^ 62) ≤ j ∧ j < 2 ^ 62 ∧ R (Itr 0 j.toNat) H1
theorem pi_range1 {a : Expr} {ta : TA} {p pos : Pos} (hg : Gl X "range") (hm : X.mg "range" = none) (ha : PA X [a] ta) (hs : starEach [a] X.env = [(false, eval a X.env)] := by rfl) : PI X tg (.Call (.Name "range" p) [a] [] pos) (iRng1 ta) := by
  intro pins s σ H R I h
  refine Call_ (ld_blt I hg hm boot_range (PyProof.Rows.callWith_type1 (thn (ha pos pins s σ H _ I h) fun us s1 ⟨vs, H1, I1, r1, q1⟩ => ?_) hs rfl))
  obtain ⟨j, e, q1, q2, q⟩ := q1
  subst e
  cases r1 with
  | cons r rr =>
    cases rr
    obtain ⟨t, rfl⟩ := r
    exact call_range_1 (range_it I1 (by (first | lia | omega)) (by (first | lia | omega)) q1 q2 (by simpa using q))

noncomputable def tFor (wi : TI) (g : TG) (tb : TS) : TS := fun D σ H => wi σ H fun J H1 => ∃ W : Nat → Nat → St → Hp → Prop, (∃ m, W 0 m σ H1) ∧ ∀ i m σ H, W i m σ H →
  (J.stop i H ∧ D.nx σ H) ∨ (J.go i H ∧ ∃ N : St → Hp → Prop, (∀ σ' H', N σ' H' → ∃ m', m' < m ∧ W (i + 1) m' σ' H') ∧ ∀ x H', J.yld i H x H' → g x σ H' fun σ2 H2 => tb { D with nx := N, ct := N, bk := D.nx } σ2 H2)
noncomputable def pinsAt (fp : List Addr) (h : Heap) : List (Addr × Obj) := fp.filterMap fun b => (h.get? b).map fun o => (b, o)
theorem mem_pinsAt {fp : List Addr} {h : Heap} {b : Addr} {o : Obj} (hb : b ∈ fp) (e : h.get? b = some o) : (b, o) ∈ pinsAt fp h := List.mem_filterMap.mpr ⟨b, hb, by rw [e]; rfl⟩
theorem of_pinsAt {fp : List Addr} {h : Heap} {p : Addr × Obj} (hp : p ∈ pinsAt fp h) : p.1 ∈ fp ∧ h.get? p.1 = some p.2 := by
  obtain ⟨b, hb, e⟩ := List.mem_filterMap.mp hp
  cases q : h.get? b with
  | none => rw [q] at e; cases e
  | some o =>
    rw [q] at e
    have e' : (b, o) = p := Option.some.inj e
    subst e'
    exact ⟨hb, q⟩
theorem Inv.pinned {pins : List (Addr × Obj)} {σ : St} {H : Hp} {s : Shared} {fp : List Addr} (I : Inv X pins σ H s) (hf : ∀ b ∈ fp, FpOk X pins H b) (ho : ∀ b ∈ fp, ∃ o, s.heap.get? b = some o ∧ ∀ v, o.data ≠ .cell v) : Inv X (pins ++ pinsAt fp s.heap) σ H s :=
  I.pins_of fun p hp => (List.mem_append.mp hp).elim (fun z => I.pin p (List.mem_append_right _ z)) fun z => by
    obtain ⟨hb, e⟩ := of_pinsAt z
    obtain ⟨f0, f1, f2, _⟩ := hf p.1 hb
    obtain ⟨o, e', d⟩ := ho p.1 hb
    rw [e] at e'; cases e'
    exact ⟨e, f0, f1, f2, d⟩
theorem Inv.unpinned {pins pl : List (Addr × Obj)} {σ : St} {H : Hp} {s : Shared} (I : Inv X (pins ++ pl) σ H s) : Inv X pins σ H s := I.pins_of fun p hp => I.pin p (List.mem_append_right _ (List.mem_append_left _ hp))
theorem ps_for {iter : Expr} {body : List Stmt} {wi : TI} {g : TG} {tb : TS} {pos : Pos} (hp : PassesOwn (model X.prog X.w) X.A X.env X.xe) (hc : X.calm = true) (hi : PI X tg iter wi) (hg : PG X tg g) (hb : PSs X body tb)
    (hs : ∀ x, foldedSetIterable iter X.env x = pure x := by intro _; rfl) : PS X (.For tg iter body [] pos) (tFor wi g tb) := by
  intro pins s σ H D I h
  refine wpAny_For (thn (hi pins s σ H _ I h) fun v s1 h1 => thn h1 fun itv s2 h2 => ?_) hs
  obtain ⟨it, fp, tn, J, H2, e, I2, T, st2, f2, W, ⟨m0, w0⟩, turn⟩ := h2
  subst e
  -- what stays true of the iterator's objects through the loop
  have stat : ∀ {H' : Hp}, (∀ b ∈ fp, H' b = none) → ∀ b ∈ fp, FpOk X pins H' b := fun hn b hb => ⟨hn b hb, (f2 b hb).2⟩
  refine codeAny_forLoop_any (fun n s' => ∃ i σ' H', Inv X pins σ' H' s' ∧ tn i s'.heap ∧ (∀ b ∈ fp, H' b = none) ∧ W i n σ' H') ?_ m0 ⟨0, σ, H2, I2, st2, fun b hb => (f2 b hb).1, w0⟩
  rintro n s3 ⟨i, σ3, H3, I3, st3, fr3, w3⟩
  rcases turn i n σ3 H3 w3 with ⟨stop, qn⟩ | ⟨go, N, hN, step⟩
  · refine wpAny_passesOwn hp (thn (T.done X rfl rfl rfl hc i pins s3 σ3 H3 X.xe I3 (stat fr3) st3 stop) fun r s4 ⟨hr, I4⟩ => ?_)
    subst hr
    exact wpAny_execs_nil ⟨σ3, H3, I4, qn⟩
  · refine wpAny_passesOwn hp (thn (T.item X rfl rfl rfl hc i pins s3 σ3 H3 X.xe I3 (stat fr3) st3 go) fun r s4 ⟨u, hr, h4⟩ => ?_)
    subst hr
    refine wpAny_passesOwn hp (thn h4 fun _ s5 ⟨x, H5, I5, r5, y5, st5, fr5⟩ => ?_)
    have I5' := I5.pinned (stat fr5) (T.obj _ _ st5)
    refine wpAny_passesOwn hp (thn (hg _ s5 σ3 H5 x u _ I5' r5 (step x H5 y5)) fun _ s6 ⟨σ6, H6, I6, q6⟩ => ?_)
    refine wpAny_passesOwn hp (thn (hb _ s6 σ6 H6 _ I6 q6) fun f s7 q7 => ?_)
    have again : ∀ {σ7 : St} {H7 : Hp}, Inv X (pins ++ pinsAt fp s5.heap) σ7 H7 s7 → N σ7 H7 → ∃ m, m < n ∧ ∃ i σ' H', Inv X pins σ' H' s7 ∧ tn i s7.heap ∧ (∀ b ∈ fp, H' b = none) ∧ W i m σ' H' := fun {σ7 H7} I7 n7 => by
      obtain ⟨m', hm, w7⟩ := hN σ7 H7 n7
      refine ⟨m', hm, i + 1, σ7, H7, I7.unpinned, T.keep _ _ _ st5 fun b hb o e => (I7.pin (b, o) (List.mem_append_right _ (List.mem_append_right _ (mem_pinsAt hb e)))).1, fun b hb => ?_, w7⟩
      obtain ⟨o, e, d⟩ := T.obj _ _ st5 b hb
      exact (I7.pin (b, o) (List.mem_append_right _ (List.mem_append_right _ (mem_pinsAt hb e)))).2.1
    cases f with
    | next => obtain ⟨σ7, H7, I7, n7⟩ := q7; exact again I7 n7
    | cont => obtain ⟨σ7, H7, I7, n7⟩ := q7; exact again I7 n7
    | brk => obtain ⟨σ7, H7, I7, q7⟩ := q7; exact ⟨σ7, H7, I7.unpinned, q7⟩
    | ret v => obtain ⟨x7, σ7, H7, I7, r7, q7⟩ := q7; exact ⟨x7, σ7, H7, I7.unpinned, r7, q7⟩
end

theorem for_list {K : PySem.W.Frag} {a : Addr} {xs : List V} {g : TG} {tb : TS} {D : Ends} {σ : St} {H : Hp} (Pv : Nat → St → Hp → Prop) (h0 : Pv 0 σ H) (hl : ∀ i σ H, i ≤ xs.length → Pv i σ H → SqL K H a xs)
    (hs : ∀ i x σ H, xs[i]? = some x → Pv i σ H → g x σ H fun σ2 H2 => tb { D with nx := Pv (i + 1), ct := Pv (i + 1), bk := D.nx } σ2 H2) (hd : ∀ σ H, Pv xs.length σ H → D.nx σ H) :
    ∃ W : Nat → Nat → St → Hp → Prop, (∃ m, W 0 m σ H) ∧ ∀ i m σ H, W i m σ H →
      ((Itl K a).stop i H ∧ D.nx σ H) ∨ ((Itl K a).go i H ∧ ∃ N : St → Hp → Prop, (∀ σ' H', N σ' H' → ∃ m', m' < m ∧ W (i + 1) m' σ' H') ∧ ∀ x H', (Itl K a).yld i H x H' → g x σ H' fun σ2 H2 => tb { D with nx := N, ct := N, bk := D.nx } σ2 H2) := by
  refine ⟨fun i m σ H => m = xs.length - i ∧ i ≤ xs.length ∧ Pv i σ H, ⟨xs.length, by simp, Nat.zero_le _, h0⟩, ?_⟩
  rintro i m σ H ⟨rfl, hi, p⟩
  have q := hl i σ H hi p
  by_cases hlt : i < xs.length
  · refine .inr ⟨⟨xs, xs[i], q, by simp [hlt]⟩, Pv (i + 1), fun σ' H' p' => ⟨xs.length - (i + 1), by (first | lia | omega), rfl, hlt, p'⟩, fun x H' y => ?_⟩
    obtain ⟨e, y⟩ := y
    subst e
    exact hs i x σ _ (y xs q) p
  · have e : i = xs.length := by (first | lia | omega)
    subst e
    exact .inl ⟨⟨xs, q, Nat.le_refl _⟩, hd σ H p⟩
theorem for_range {lo : Int} {n : Nat} {g : TG} {tb : TS} {D : Ends} {σ : St} {H : Hp} (Pv : Nat → St → Hp → Prop) (h0 : Pv 0 σ H)
    (hs : ∀ i σ H, i < n → Pv i σ H → g (.int (lo + i)) σ H fun σ2 H2 => tb { D with nx := Pv (i + 1), ct := Pv (i + 1), bk := D.nx } σ2 H2) (hd : ∀ σ H, Pv n σ H → D.nx σ H) :
    ∃ W : Nat → Nat → St → Hp → Prop, (∃ m, W 0 m σ H) ∧ ∀ i m σ H, W i m σ H →
      ((Itr lo n).stop i H ∧ D.nx σ H) ∨ ((Itr lo n).go i H ∧ ∃ N : St → Hp → Prop, (∀ σ' H', N σ' H' → ∃ m', m' < m ∧ W (i + 1) m' σ' H') ∧ ∀ x H', (Itr lo n).yld i H x H' → g x σ H' fun σ2 H2 => tb { D with nx := N, ct := N, bk := D.nx } σ2 H2) := by
  refine ⟨fun i m σ H => m = n - i ∧ i ≤ n ∧ Pv i σ H, ⟨n, by simp, Nat.zero_le _, h0⟩, ?_⟩
  rintro i m σ H ⟨rfl, hi, p⟩
  by_cases hlt : i < n
  · refine .inr ⟨hlt, Pv (i + 1), fun σ' H' p' => ⟨n - (i + 1), by (first | lia | omega), rfl, hlt, p'⟩, fun x H' y => ?_⟩
    obtain ⟨e, y⟩ := y
    subst e y
    exact hs i σ _ hlt p
  · have e : i = n := by (first | lia | omega)
    subst e
    exact .inl ⟨Nat.le_refl _, hd σ H p⟩
end L2

namespace L2
open PySem PySem.Spec PyProof.Rows

noncomputable abbrev R2 := V → V → Hp → VK → Prop
noncomputable def OpR (X : Cx) (f : Value → Value → Sem Value) (r : R2) : Prop :=
  ∀ (pins : List (Addr × Obj)) (s : Shared) (σ : St) (H : Hp) (x y : V) (v u : Value) (Q : VK), Inv X pins σ H s → RelV x v → RelV y u → r x y H Q →
    wpAny (model X.prog X.w) X.A (f v u) (EP X pins σ Q) X.xe s
noncomputable def UnR (X : Cx) (f : Value → Sem Value) (r : V → Hp → VK → Prop) : Prop :=
  ∀ (pins : List (Addr × Obj)) (s : Shared) (σ : St) (H : Hp) (x : V) (v : Value) (Q : VK), Inv X pins σ H s → RelV x v → r x H Q →
    wpAny (model X.prog X.w) X.A (f v) (EP X pins σ Q) X.xe s
noncomputable def CallR (X : Cx) (f : Value) (r : List V → Hp → VK → Prop) : Prop :=
  ∀ (pins : List (Addr × Obj)) (s : Shared) (σ : St) (H : Hp) (xs : List V) (us : List Value) (Q : VK), Inv X pins σ H s → Vals xs us → r xs H Q →
    wpAny (model X.prog X.w) X.A (call f us) (EP X pins σ Q) X.xe s
noncomputable def TruR (X : Cx) (r : V → Hp → (Bool → Hp → Prop) → Prop) : Prop :=
  ∀ (pins : List (Addr × Obj)) (s : Shared) (σ : St) (H : Hp) (x : V) (v : Value) (Q : Bool → Hp → Prop), Inv X pins σ H s → RelV x v → r x H Q →
    wpAny (model X.prog X.w) X.A (truthy v) (TP X pins σ Q) X.xe s

noncomputable def tOp (r : R2) (ta tb : TE) : TE := fun σ H Q => ta σ H fun x H1 => tb σ H1 fun y H2 => r x y H2 Q
noncomputable def tUn (r : V → Hp → VK → Prop) (ta : TE) : TE := fun σ H Q => ta σ H fun x H1 => r x H1 Q
inductive PrI (C : Int → Int → Prop) (g : Int → Int → V) (x : V) (y : V) (H : Hp) (Q : VK) : Prop
  | mk (i j : _) (h0 : x = .int i) (h1 : y = .int j) (h2 : C i j) (h3 : Q (g i j) H) : PrI C g x y H Q
noncomputable def rI (C : Int → Int → Prop) (g : Int → Int → V) : R2 := fun x y H Q => PrI C g x y H Q
inductive PrI0 (g : Int → Int → V) (x : V) (y : V) (H : Hp) (Q : VK) : Prop
  | mk (i j : _) (h0 : x = .int i) (h1 : y = .int j) (h2 : Q (g i j) H) : PrI0 g x y H Q
noncomputable def rI0 (g : Int → Int → V) : R2 := fun x y H Q => PrI0 g x y H Q
inductive PrU (g : Int → V) (x : V) (H : Hp) (Q : VK) : Prop
  | mk (i : _) (h0 : x = .int i) (h1 : Q (g i) H) : PrU g x H Q
noncomputable def rU (g : Int → V) : V → Hp → VK → Prop := fun x H Q => PrU g x H Q

section
variable {X : Cx} {a b c : Expr} {ta tb tc : TE} {pos : Pos}

theorem binT (ha : PE X a ta) (hb : PE X b tb) {pins : List (Addr × Obj)} {s : Shared} {σ : St} {H : Hp} {R : V → V → Hp → Prop} (I : Inv X pins σ H s)
    (h : ta σ H fun x H1 => tb σ H1 fun y H2 => R x y H2) {Q : Value → Shared → Prop} {f : Value → Value → Sem Value}
    (hf : ∀ v u s2 x y H2, Inv X pins σ H2 s2 → RelV x v → RelV y u → R x y H2 → wpAny (model X.prog X.w) X.A (f v u) Q X.xe s2) :
    wpAny (model X.prog X.w) X.A (eval a X.env) (fun v s₁ => wpAny (model X.prog X.w) X.A (eval b X.env) (fun u s₂ => wpAny (model X.prog X.w) X.A (f v u) Q X.xe s₂) X.xe s₁) X.xe s := by
  refine thn (ha pins s σ H _ I h) fun v s1 ⟨x, H1, I1, r1, q1⟩ => ?_
  refine thn (hb pins s1 σ H1 _ I1 q1) fun u s2 ⟨y, H2, I2, r2, q2⟩ => ?_
  exact hf v u s2 x y H2 I2 r1 r2 q2

theorem pe_op {op : Operator} {r : R2} (ho : OpR X (binaryOp op) r) (ha : PE X a ta) (hb : PE X b tb) : PE X (.BinOp a op b pos) (tOp r ta tb) := by
  intro pins s σ H Q I h
  exact wpAny_BinOp (binT ha hb I h fun v u s2 x y H2 I2 rx ry q => ho pins s2 σ H2 x y v u Q I2 rx ry q)
theorem pe_un {op : UnaryOp} {r : V → Hp → VK → Prop} (ho : UnR X (unaryOp op) r) (ha : PE X a ta) : PE X (.UnaryOp op a pos) (tUn r ta) := by
  intro pins s σ H Q I h
  exact UnaryOp_ (thn (ha pins s σ H _ I h) fun v s1 ⟨x, H1, I1, r1, q1⟩ => ho pins s1 σ H1 x v Q I1 r1 q1)

theorem opI {f : Value → Value → Sem Value} {C : Int → Int → Prop} {g : Int → Int → Int}
    (rule : ∀ (i j : Int) (t u : Tok) (s : Shared) (Q : Value → Shared → Prop) (E : Value → Shared → Prop), C i j → Q (.int (g i j) s.toks) { s with toks := s.toks + 1 } → wpAny (model X.prog X.w) X.A (f (.int i t) (.int j u)) Q E s) :
    OpR X f (rI C fun i j => .int (g i j)) := by
  intro pins s σ H x y v u Q I rx ry h
  obtain ⟨i, j, rfl, rfl, hc, q⟩ := h
  obtain ⟨t, rfl⟩ := rx
  obtain ⟨t', rfl⟩ := ry
  exact rule i j t t' s _ _ hc ⟨.int (g i j), H, I.tok _, ⟨_, rfl⟩, q⟩
theorem opI0 {f : Value → Value → Sem Value} {g : Int → Int → Int}
    (rule : ∀ (i j : Int) (t u : Tok) (s : Shared) (Q : Value → Shared → Prop) (E : Value → Shared → Prop), Q (.int (g i j) s.toks) { s with toks := s.toks + 1 } → wpAny (model X.prog X.w) X.A (f (.int i t) (.int j u)) Q E s) :
    OpR X f (rI0 fun i j => .int (g i j)) := by
  intro pins s σ H x y v u Q I rx ry h
  obtain ⟨i, j, rfl, rfl, q⟩ := h
  obtain ⟨t, rfl⟩ := rx
  obtain ⟨t', rfl⟩ := ry
  exact rule i j t t' s _ _ ⟨.int (g i j), H, I.tok _, ⟨_, rfl⟩, q⟩
theorem opB0 {f : Value → Value → Sem Value} {g : Int → Int → Bool}
    (rule : ∀ (i j : Int) (t u : Tok) (s : Shared) (Q : Value → Shared → Prop) (E : Value → Shared → Prop), Q (.bool (g i j)) s → wpAny (model X.prog X.w) X.A (f (.int i t) (.int j u)) Q E s) :
    OpR X f (rI0 fun i j => .bl (g i j)) := by
  intro pins s σ H x y v u Q I rx ry h
  obtain ⟨i, j, rfl, rfl, q⟩ := h
  obtain ⟨t, rfl⟩ := rx
  obtain ⟨t', rfl⟩ := ry
  exact rule i j t t' s _ _ ⟨.bl (g i j), H, I, rfl, q⟩

noncomputable def CDiv (i j : Int) : Prop := 0 < j ∧ j < 1073741824
noncomputable def CMul (i j : Int) : Prop := (-(2 ^ 64) < i ∧ i < 2 ^ 64) ∨ (-(2 ^ 64) < j ∧ j < 2 ^ 64)
theorem CMul.ok {i j : Int} (h : CMul i j) : IntMulOk i j := by
  rcases h with ⟨h1, h2⟩ | ⟨h1, h2⟩
  · exact .of_left (intBits_le_64 h1 h2)
  · exact .of_right (intBits_le_64 h1 h2)

theorem op_add : OpR X (binaryOp .Add) (rI0 fun i j => .int (i + j)) := opI0 fun _ _ _ _ _ _ _ q => add_int q
theorem op_sub : OpR X (binaryOp .Sub) (rI0 fun i j => .int (i - j)) := opI0 fun _ _ _ _ _ _ _ q => sub_int q
theorem op_mul : OpR X (binaryOp .Mult) (rI CMul fun i j => .int (i * j)) := opI fun _ _ _ _ _ _ _ hc q => mul_int q hc.ok
theorem op_fdiv : OpR X (binaryOp .FloorDiv) (rI CDiv fun i j => .int (i / j)) := opI fun i j _ _ _ _ _ hc q => by
  have h1 : (0 : Int) < j := hc.1
  have h2 : j < 1073741824 := hc.2
  exact floordiv_int (by (first | lia | omega)) (by rw [Int.fdiv_eq_ediv_of_nonneg i (by (first | lia | omega))]; exact q) (.inl (PyProof.noPylong_small (by (first | lia | omega))))
theorem op_mod : OpR X (binaryOp .Mod) (rI (fun _ j => 0 < j) fun i j => .int (i % j)) := opI fun i j _ _ _ _ _ hc q => by
  have h1 : (0 : Int) < j := hc
  exact mod_int' (by (first | lia | omega)) (by rw [Int.fmod_eq_emod_of_nonneg i (by (first | lia | omega))]; exact q)


theorem unI {f : Value → Sem Value} {g : Int → Int}
    (rule : ∀ (i : Int) (t : Tok) (s : Shared) (Q : Value → Shared → Prop) (E : Value → Shared → Prop), Q (.int (g i) s.toks) { s with toks := s.toks + 1 } → wpAny (model X.prog X.w) X.A (f (.int i t)) Q E s) :
    UnR X f (rU fun i => .int (g i)) := by
  intro pins s σ H x v Q I rx h
  obtain ⟨i, rfl, q⟩ := h
  obtain ⟨t, rfl⟩ := rx
  exact rule i t s _ _ ⟨.int (g i), H, I.tok _, ⟨_, rfl⟩, q⟩
theorem un_neg : UnR X (unaryOp .USub) (rU fun i => .int (-i)) := unI fun _ _ _ _ _ q => neg_int q

end

noncomputable def scal : V → V → Bool
  | .non, .non => true | .non, .int _ => true | .int _, .non => true | .non, .bl _ => true | .bl _, .non => true | .non, .str _ => true | .str _, .non => true
  | .int _, .int _ => true | .bl _, .bl _ => true | .str _, .str _ => true | .byt _, .byt _ => true
  | .int _, .str _ => true | .str _, .int _ => true | .bl _, .str _ => true | .str _, .bl _ => true
  | _, _ => false
noncomputable def rEq : R2 := fun x y H Q => scal x y = true ∧ Q (.bl (decide (x = y))) H

theorem dec_int {i j : Int} : decide (V.int i = V.int j) = (i == j) := by
  rw [Bool.eq_iff_iff]
  simp
theorem dec_bl {i j : Bool} : decide (V.bl i = V.bl j) = (i == j) := by
  rw [Bool.eq_iff_iff]
  simp
theorem dec_str {i j : Str} : decide (V.str i = V.str j) = (i == j) := by
  rw [Bool.eq_iff_iff]
  simp
theorem dec_byt {i j : Array UInt8} : decide (V.byt i = V.byt j) = (i.toList == j.toList) := by
  rw [Bool.eq_iff_iff]
  cases i
  cases j
  simp

section
variable {X : Cx} {a b c : Expr} {ta tb tc : TE} {pos : Pos}
theorem fin_bl {pins : List (Addr × Obj)} {σ : St} {H : Hp} {s : Shared} {Q : VK} {k k' : Bool} (I : Inv X pins σ H s) (q : Q (.bl k) H) (e : k = k') : EP X pins σ Q (.bool k') s := by
  subst e
  exact ⟨.bl k, H, I, rfl, q⟩
theorem op_eq : OpR X (compareOp .Eq) rEq := by
  intro pins s σ H x y v u Q I rx ry h
  obtain ⟨hs, q⟩ := h
  cases x with
  | non =>
    cases rx
    cases y with
    | non => cases ry; exact PySem.EqNone.eq_none_none (fin_bl I q (by simp))
    | bl j => cases ry; exact PySem.EqNone.eq_none_bool (fin_bl I q (by simp))
    | int j => obtain ⟨t', rfl⟩ := ry; exact PySem.EqNone.eq_none_int (fin_bl I q (by simp))
    | str j => obtain ⟨t', rfl⟩ := ry; exact PySem.EqNone.eq_none_str (fin_bl I q (by simp))
    | _ => exact absurd (show false = true from hs) Bool.false_ne_true
  | bl i =>
    cases rx
    cases y with
    | non => cases ry; exact PySem.EqNone.eq_bool_none (fin_bl I q (by simp))
    | bl j => cases ry; exact eq_bool (fin_bl I q dec_bl)
    | str j => obtain ⟨t', rfl⟩ := ry; exact PySem.EqMixed.eq_bool_str (fin_bl I q (by simp))
    | _ => exact absurd (show false = true from hs) Bool.false_ne_true
  | int i =>
    obtain ⟨t, rfl⟩ := rx
    cases y with
    | non => cases ry; exact PySem.EqNone.eq_int_none (fin_bl I q (by simp))
    | int j => obtain ⟨t', rfl⟩ := ry; exact eq_int (fin_bl I q dec_int)
    | str j => obtain ⟨t', rfl⟩ := ry; exact PySem.EqMixed.eq_int_str (fin_bl I q (by simp))
    | _ => exact absurd (show false = true from hs) Bool.false_ne_true
  | str i =>
    obtain ⟨t, rfl⟩ := rx
    cases y with
    | non => cases ry; exact PySem.EqNone.eq_str_none (fin_bl I q (by simp))
    | bl j => cases ry; exact PySem.EqMixed.eq_str_bool (fin_bl I q (by simp))
    | int j => obtain ⟨t', rfl⟩ := ry; exact PySem.EqMixed.eq_str_int (fin_bl I q (by simp))
    | str j => obtain ⟨t', rfl⟩ := ry; exact eq_str (fin_bl I q dec_str)
    | _ => exact absurd (show false = true from hs) Bool.false_ne_true
  | byt i =>
    obtain ⟨t, rfl⟩ := rx
    cases y with
    | byt j => obtain ⟨t', rfl⟩ := ry; exact PySem.W.eq_bytes (fin_bl I q dec_byt)
    | _ => exact absurd (show false = true from hs) Bool.false_ne_true
  | _ => cases y <;> exact absurd (show false = true from hs) Bool.false_ne_true

theorem op_lt : OpR X (compareOp .Lt) (rI0 fun i j => .bl (decide (i < j))) := opB0 fun _ _ _ _ _ _ _ q => lt_int q
theorem op_gt : OpR X (compareOp .Gt) (rI0 fun i j => .bl (decide (j < i))) := opB0 fun _ _ _ _ _ _ _ q => gt_int q
theorem op_ge : OpR X (compareOp .GtE) (rI0 fun i j => .bl (decide (j ≤ i))) := opB0 fun _ _ _ _ _ _ _ q => ge_int q




theorem nomark (b : Expr) {op : CmpOp} (h : op ≠ .In := by decide) (h2 : op ≠ .NotIn := by decide) : behindInMarks op b = false := by
  have e1 : (op == CmpOp.In) = false := by cases op <;> first | rfl | exact absurd rfl h
  have e2 : (op == CmpOp.NotIn) = false := by cases op <;> first | rfl | exact absurd rfl h2
  cases b <;> simp [behindInMarks, e1, e2]
theorem pe_cmpR {op : CmpOp} {r : R2} (ho : OpR X (compareOp op) r) (ha : PE X a ta) (hb : PE X b tb) (hm : behindInMarks op b = false) : PE X (.Compare a [op] [b] pos) (tOp r ta tb) := by
  intro pins s σ H Q I h
  exact wpAny_Compare1 (binT ha hb I h fun v u s2 x y H2 I2 rx ry q => ho pins s2 σ H2 x y v u Q I2 rx ry q) hm
noncomputable def tTest (t : TE) : TT := fun σ H Q => t σ H fun x H' => IsBl x H' Q
theorem pt_cmpR {op : CmpOp} {r : R2} (ho : OpR X (compareOp op) r) (ha : PE X a ta) (hb : PE X b tb) (hm : behindInMarks op b = false) : PT X (.Compare a [op] [b] pos) (tTest (tOp r ta tb)) := by
  intro pins s σ H Q I h
  refine wpAny_isTrue_Compare1 (thn (ha pins s σ H _ I h) fun v s1 ⟨x, H1, I1, r1, q1⟩ => thn (hb pins s1 σ H1 _ I1 q1) fun u s2 ⟨y, H2, I2, r2, q2⟩ =>
    thn (ho pins s2 σ H2 x y v u _ I2 r1 r2 q2) fun c s3 ⟨z, H3, I3, r3, k, e, q3⟩ => ?_) hm
  subst e
  cases r3
  exact wpAny_truthy_bool ⟨H3, I3, q3⟩

noncomputable def TruV (K : PySem.W.Frag) (x : V) (H : Hp) (k : Bool) : Prop :=
  match x with
  | .non => k = false
  | .bl b => k = b
  | .int i => k = (i != 0)
  | .str y => y.length ≤ sizeLine ∧ k = ((y.length : Int) != 0)
  | .byt y => y.size ≤ sizeLine ∧ k = ((y.size : Int) != 0)
  | .ref p => (∃ xs, SqL K H p xs ∧ k = !xs.isEmpty) ∨ (∃ xs, SqT K H p xs ∧ k = !xs.isEmpty) ∨ ∃ kvs, H p = some (.dK kvs) ∧ k = !kvs.isEmpty
  | _ => False
theorem isEmpty_kv {κ : Type} {kvs : List (κ × V)} {vs : List (κ × Value)} (r : KV kvs vs) : (!vs.isEmpty) = !kvs.isEmpty := by
  cases r <;> rfl
theorem isEmpty_of {xs : List V} {its : List Value} (r : Vals xs its) : (!its.toArray.isEmpty) = !xs.isEmpty := by
  cases r <;> simp
theorem line63 : (sizeLine : Nat) < 2 ^ 63 := by rw [sizeLine_eq]; decide
theorem tru_ok : TruR X (fun x H Q => ∃ k, TruV X.K x H k ∧ Q k H) := by
  intro pins s σ H x v Q I rx h
  obtain ⟨k, e, q⟩ := h
  have hl := line63
  have hs : sizeLine = 16777216 := sizeLine_eq
  cases x with
  | non =>
    cases rx
    have e' : k = false := e
    subst e'
    exact truthy_none ⟨H, I, q⟩
  | bl b =>
    cases rx
    have e' : k = b := e
    subst e'
    exact wpAny_truthy_bool ⟨H, I, q⟩
  | int i =>
    obtain ⟨t, rfl⟩ := rx
    have e' : k = (i != 0) := e
    subst e'
    exact PySem.P.truthy_int ⟨H, I, q⟩
  | str y =>
    obtain ⟨t, rfl⟩ := rx
    obtain ⟨hy, e'⟩ : y.length ≤ sizeLine ∧ k = ((y.length : Int) != 0) := e
    subst e'
    exact PySem.P.truthy_str (by (first | lia | omega)) ⟨H, I.tok _, q⟩
  | byt y =>
    obtain ⟨t, rfl⟩ := rx
    obtain ⟨hy, e'⟩ : y.size ≤ sizeLine ∧ k = ((y.size : Int) != 0) := e
    subst e'
    exact PySem.W.truthy_bytes (by (first | lia | omega)) ⟨H, I.tok _, q⟩
  | ref p =>
    cases rx
    have e' : (∃ xs, SqL X.K H p xs ∧ k = !xs.isEmpty) ∨ (∃ xs, SqT X.K H p xs ∧ k = !xs.isEmpty) ∨ ∃ kvs, H p = some (.dK kvs) ∧ k = !kvs.isEmpty := e
    rcases e' with ⟨xs, hx, e'⟩ | ⟨xs, hx, e'⟩ | ⟨kvs, hx, e'⟩
    · subst e'
      obtain ⟨its, r, pl, hz⟩ := I.list hx
      have hlen := r.length
      exact wpAny_truthy_list pl.isList (by simp only [List.size_toArray]; (first | lia | omega)) ⟨H, I.tok _, by rw [isEmpty_of r]; exact q⟩
    · subst e'
      obtain ⟨its, r, pl, hz⟩ := I.tuple hx
      have hlen := r.length
      exact truthy_tuple pl (by simp only [List.size_toArray]; (first | lia | omega)) ⟨H, I.tok _, by rw [isEmpty_of r]; exact q⟩
    · subst e'
      obtain ⟨hz, hS, vs, r, m⟩ : kvs.length ≤ sizeLine ∧ (p == sysModules) = false ∧ ∃ vs, KV kvs vs ∧ s.heap.DictOf (mixKind X.prog X.w) p vs := I.hok p _ hx
      have hlen : kvs.length = vs.length := Paired.length r
      exact wpAny_truthy_dict hS m (by (first | lia | omega)) ⟨H, I.tok _, by rw [isEmpty_kv r]; exact q⟩
  | _ => exact (show False from e).elim
theorem pt_truth (ha : PE X a ta) (he : ∀ whole, isTrue a X.env whole = (do let v ← whole; standAt a.pos; holding [v] (truthy v))) :
    PT X a (fun σ H Q => ta σ H fun x H' => ∃ k, TruV X.K x H' k ∧ Q k H') := by
  intro pins s σ H Q I h
  exact isTrue_plain (thn (ha pins s σ H _ I h) fun v s1 ⟨x, H1, I1, r1, q1⟩ => tru_ok pins s1 σ H1 x v Q I1 r1 q1) (he _)



theorem vals1 {x : V} {us : List Value} (r : Vals [x] us) : ∃ u, us = [u] ∧ RelV x u := by
  cases r with
  | cons r1 r2 => cases r2; exact ⟨_, rfl, r1⟩
theorem vals2 {x y : V} {us : List Value} (r : Vals [x, y] us) : ∃ u w', us = [u, w'] ∧ RelV x u ∧ RelV y w' := by
  cases r with
  | cons r1 r2 =>
    cases r2 with
    | cons r3 r4 => cases r4; exact ⟨_, _, rfl, r1, r3⟩
theorem call_max2 (hc : X.calm = true) : CallR X (.builtin "max") (fun xs H Q => ∃ i j, xs = [.int i, .int j] ∧ Q (.int (if j > i then j else i)) H) := by
  intro pins s σ H xs us Q I r h
  obtain ⟨i, j, rfl, q⟩ := h
  obtain ⟨u, w', rfl, ⟨t, rfl⟩, ⟨t', rfl⟩⟩ := vals2 r
  refine max_two_ints (I.ok.hd hc) fun h' tk k => ⟨_, H, I.kept k, ?_, q⟩
  by_cases hj : j > i
  · rw [if_pos hj, if_pos hj]; exact ⟨_, rfl⟩
  · rw [if_neg hj, if_neg hj]; exact ⟨_, rfl⟩
theorem call_min2 (hc : X.calm = true) : CallR X (.builtin "min") (fun xs H Q => ∃ i j, xs = [.int i, .int j] ∧ Q (.int (if j < i then j else i)) H) := by
  intro pins s σ H xs us Q I r h
  obtain ⟨i, j, rfl, q⟩ := h
  obtain ⟨u, w', rfl, ⟨t, rfl⟩, ⟨t', rfl⟩⟩ := vals2 r
  refine min_two_ints (I.ok.hd hc) fun h' tk k => ⟨_, H, I.kept k, ?_, q⟩
  by_cases hj : j < i
  · rw [if_pos hj, if_pos hj]; exact ⟨_, rfl⟩
  · rw [if_neg hj, if_neg hj]; exact ⟨_, rfl⟩
theorem call_int1 : CallR X (.type "int") (fun xs H Q => (∃ i, xs = [.int i] ∧ Q (.int i) H) ∨ ∃ k, xs = [.bl k] ∧ Q (.int (if k then 1 else 0)) H) := by
  intro pins s σ H xs us Q I r h
  rcases h with ⟨i, rfl, q⟩ | ⟨k, rfl, q⟩
  · obtain ⟨u, rfl, t, rfl⟩ := vals1 r
    exact call_int_int ⟨.int i, H, I, ⟨_, rfl⟩, q⟩
  · obtain ⟨u, rfl, r1⟩ := vals1 r
    cases r1
    exact call_int_bool ⟨.int (if k then 1 else 0), H, I.tok _, ⟨_, rfl⟩, q⟩
end
end L2

namespace L2
open PySem PySem.Spec PyProof.Rows

structure ObjM (h : Heap) (x dx C : Addr) (mA : Str → Option Value) : Prop where
  obj : h.get? x = some (PySem.W.instObj C dx)
  ns : h.Ns1 dx mA
  ne : dx ≠ x

theorem lookIn_ns {h : Heap} {dx : Addr} {mA : Str → Option Value} (n : h.Ns1 dx mA) : ∃ od, h.get? dx = some od ∧ ∀ name, PySem.W.lookIn name od = some (mA name) := by
  obtain ⟨o, es, ep, ho, hd, hk, _, hm⟩ := n
  refine ⟨o, ho, fun name => ?_⟩
  have e := hm name
  unfold nsFind findBy at e
  rw [← Array.find?_toList] at e
  unfold PySem.W.lookIn
  rw [hd]
  dsimp only
  split
  · rename_i y q
    rw [q] at e
    exact congrArg some e
  · rename_i q
    rw [q] at e
    have a : es.toList.any (·.refKey) = false := by
      rw [List.any_eq_false]
      intro y hy
      obtain ⟨z, t, hkey⟩ := hk y (Array.mem_toList_iff.mp hy)
      simp [DictEntry.refKey, hkey]
    have a' : ¬ es.toList.any (·.refKey) = true := by rw [a]; exact Bool.false_ne_true
    rw [if_neg a']
    exact congrArg some e

theorem ObjM.look {h : Heap} {x dx C : Addr} {mA : Str → Option Value} (I : ObjM h x dx C mA) : ∃ od, PySem.W.InstAt h x (PySem.W.instObj C dx) C (some od) ∧ ∀ name, PySem.W.lookIn name od = some (mA name) :=
  let ⟨od, ho, hl⟩ := lookIn_ns I.ns
  ⟨od, ⟨I.obj, rfl, rfl, ho⟩, hl⟩

section
variable {prog : Program} {w : World} {A : Around} {E : Value → Shared → Prop} {s : Shared} {K : PySem.W.Frag} {x dx C f : Addr} {mA : Str → Option Value} {name : Str} {v : Value}

theorem get_map {expr : Bool} {Q : Value → Shared → Prop} (X : K.In s.heap) (I : ObjM s.heap x dx C mA) (hg : PySem.W.plainGet K C name = true) (hh : PySem.W.hasDictIn K C = true)
    (ha : PySem.W.findIn K (.ref C) name = some none) (hv : mA name = some v) (hv' : PySem.W.handedIn v = true) (h : Q v { s with toks := s.toks + 1 }) :
    wpAny (model prog w) A (getAttr (.ref x) name expr) Q E s := by
  obtain ⟨od, J, hl⟩ := I.look
  exact PySem.W.get_value X J (PySem.W.plainGet_of hg).1 (PySem.W.findObj_own hh ha rfl (by rw [hl, hv])) hv' h


theorem get_meth {pl : Sem Bool} {Q : Value × List Value → Shared → Prop} (X : K.In s.heap) (I : ObjM s.heap x dx C mA) (hg : PySem.W.plainGet K C name = true)
    (hf : PySem.W.findIn K (.ref C) name = some (some (.ref f))) (ht : PySem.W.isFn K (.ref f) = true) (hv : mA name = none) (h : Q (.ref f, [.ref x]) s) :
    wpAny (model prog w) A (getMethod (.ref x) name pl) Q E s := by
  obtain ⟨od, J, hl⟩ := I.look
  exact PySem.W.method_fn X J (PySem.W.plainGet_of hg).1 (PySem.W.plainGet_of hg).2 hf (beq_iff_eq.mp ht) (by show (PySem.W.lookIn name od).map (·.isSome) = some false; rw [hl, hv]; rfl) h

theorem set_map {ns : List Str} {Q : Unit → Shared → Prop} (X : K.In s.heap) (I : ObjM s.heap x dx C mA)
    (hs : PySem.W.findIn K (.ref C) "__setattr__" = some (some (.builtin "object.__setattr__"))) (hp : PySem.W.plainOver K C = true) (ht : PySem.W.takerIn K C name = some none) (hh : PySem.W.hasDictIn K C = true)
    (hw : PySem.Within mA ns) (hsz : ns.length ≤ sizeLine)
    (h : ∀ h', ObjM h' x dx C (fun y => if y = name then some v else mA y) → Heap.SameBut dx s.heap h' → Q () { s with heap := h', toks := s.toks + 2 }) :
    wpAny (model prog w) A (setAttr (.ref x) name v) Q E s := by
  obtain ⟨od, J, hl⟩ := I.look
  refine PySem.W.set_plain X J hs (PySem.W.osa_open (s := { s with toks := s.toks + 1 }) (r := none) X J hp ht fun b => ?_)
  obtain ⟨cd, hc, hd'⟩ := PySem.W.any_some hh
  have hx : s.heap.get? x = some ⟨.ref C, some dx, .plain, #[]⟩ := I.obj
  refine wpAny_bind (wpAny_pure (wpAny_bind (wpAny_bind (wpAny_loadPart hx (wpAny_bind (PySem.W.Looks.here (s := { s with toks := s.toks + 1 }) (PySem.W.looks_clsIn X hc) ?_))))))
  rw [hd']
  refine wpAny_pure (a := some dx) (wpAny_bind (wpAny_pure (wpAny_bind ?_)))
  refine wpAny_nsSet1 (s := { s with toks := s.toks + 1 }) I.ns fun h' hn2 hs2 => ?_
  obtain ⟨oD, esD, epD, hoD, hdD, hcD⟩ := hn2.count (PySem.Within.cons name v hw)
  refine wpAny_bind (wpAny_lookBehind hoD (by rw [hdD]; exact pastItsLine_dict (Nat.le_trans hcD (by rw [List.length_cons]; (first | lia | omega)))) ?_)
  exact wpAny_pure (h _ ⟨(hs2.2 _ (Ne.symm I.ne)).trans I.obj, hn2, I.ne⟩ hs2)

theorem make_map {R : Result → Shared → Prop} {vs : List Value} {kw : List (Str × Value)} (X : K.In s.heap) (hm : PySem.W.makesIn K C = true)
    (hi : PySem.W.findIn K (.ref C) "__init__" = some (some (.ref f))) (hf : PySem.W.typeIn K (.ref f) = some (.type "function"))
    (h : codeAny (model prog w) (A.under (.builtin "type.__call__" ⟨.ref C :: vs, kw⟩)) (.call (.ref f) ⟨.ref (s.heap.objs.size + 1) :: vs, kw⟩) (PySem.W.InitBack (s.heap.objs.size + 1) R)
      { s with heap := (s.heap.push PySem.W.emptyDict).push (PySem.W.instObj C s.heap.objs.size) }) :
    codeAny (model prog w) A (.call (.ref C) ⟨vs, kw⟩) R s := by
  obtain ⟨hh, g, d, t, os⟩ := s
  exact PySem.W.make_core (PySem.W.makes_of X hm) (PySem.W.looks_findIn X hi) (fun self => PySem.W.bind_fn X self hf) (.inl rfl) h
end

noncomputable def putF (f : Str) (v : V) : List (Str × V) → List (Str × V)
  | [] => [(f, v)]
  | (g, x) :: r => if g = f then (g, v) :: r else (g, x) :: putF f v r
theorem lookup_putF (f g : Str) (v : V) : ∀ fs : List (Str × V), (putF f v fs).lookup g = if g = f then some v else fs.lookup g
  | [] => by
    show List.lookup g [(f, v)] = _
    by_cases h : g = f
    · have hb : (g == f) = true := beq_iff_eq.mpr h
      simp only [List.lookup, hb, if_pos h]
    · have hb : (g == f) = false := beq_eq_false_iff_ne.mpr h
      simp only [List.lookup, hb, if_neg h]
  | (k, x) :: r => by
    have ih := lookup_putF f g v r
    rw [show putF f v ((k, x) :: r) = (if k = f then (k, v) :: r else (k, x) :: putF f v r) from rfl]
    by_cases hk : k = f
    · rw [if_pos hk]
      by_cases h : g = k
      · have hb : (g == k) = true := beq_iff_eq.mpr h
        simp only [List.lookup, hb, if_pos (h.trans hk)]
      · have hb : (g == k) = false := beq_eq_false_iff_ne.mpr h
        simp only [List.lookup, hb, if_neg (fun e : g = f => h (e.trans hk.symm))]
    · rw [if_neg hk]
      by_cases h : g = k
      · have hb : (g == k) = true := beq_iff_eq.mpr h
        simp only [List.lookup, hb, if_neg (fun e : g = f => hk (h.symm.trans e))]
      · have hb : (g == k) = false := beq_eq_false_iff_ne.mpr h
        simp only [List.lookup, hb]
        exact ih
theorem keys_putF (f : Str) (v : V) : ∀ fs : List (Str × V), f ∈ (putF f v fs).map (·.1) ∧ ∀ g, g ∈ fs.map (·.1) → g ∈ (putF f v fs).map (·.1)
  | [] => ⟨by simp [putF], fun g h => by simp at h⟩
  | (k, x) :: r => by
    obtain ⟨i1, i2⟩ := keys_putF f v r
    rw [show putF f v ((k, x) :: r) = (if k = f then (k, v) :: r else (k, x) :: putF f v r) from rfl]
    by_cases hk : k = f
    · rw [if_pos hk]
      subst hk
      exact ⟨by simp, fun g h => by simpa using h⟩
    · rw [if_neg hk]
      refine ⟨?_, fun g h => ?_⟩
      · rw [List.map_cons]
        exact List.mem_cons_of_mem _ i1
      · rw [List.map_cons] at h ⊢
        rcases List.mem_cons.mp h with e | e
        · exact List.mem_cons.mpr (.inl e)
        · exact List.mem_cons_of_mem _ (i2 g e)
theorem length_putF (f : Str) (v : V) : ∀ fs : List (Str × V), (putF f v fs).length ≤ fs.length + 1
  | [] => by simp [putF]
  | (k, x) :: r => by
    have ih := length_putF f v r
    rw [show putF f v ((k, x) :: r) = (if k = f then (k, v) :: r else (k, x) :: putF f v r) from rfl]
    by_cases hk : k = f
    · rw [if_pos hk, List.length_cons, List.length_cons]; (first | lia | omega)
    · rw [if_neg hk, List.length_cons, List.length_cons]; (first | lia | omega)

theorem RelO.some_of {v : V} {o : Option Value} (r : RelO (some v) o) : ∃ u, o = some u ∧ RelV v u := by
  cases o with
  | none => exact (show False from r).elim
  | some u => exact ⟨u, rfl, r⟩
theorem RelO.none_of {o : Option Value} (r : RelO none o) : o = none := by
  cases o with
  | none => rfl
  | some u => exact (show False from r).elim
theorem handed_of {v : V} {u : Value} (r : RelV v u) : PySem.W.handedIn u = true := by
  cases v with
  | non => cases (show u = Value.none from r); rfl
  | bl b => cases (show u = Value.bool b from r); rfl
  | int i => obtain ⟨t, e⟩ := (show ∃ t, u = Value.int i t from r); cases e; rfl
  | str x => obtain ⟨t, e⟩ := (show ∃ t, u = Value.str x t from r); cases e; rfl
  | byt b => obtain ⟨t, e⟩ := (show ∃ t, u = Value.bytes b t from r); cases e; rfl
  | flt b => obtain ⟨t, e⟩ := (show ∃ t, u = Value.float b t from r); cases e; rfl
  | ref a => cases (show u = Value.ref a from r); rfl
  | ty n => cases (show u = Value.type n from r); rfl

section
variable {P : Program} {w : World} {H H' : Hp} {h h' : Heap} {a C dx : Addr} {fs fs' : List (Str × V)}
theorem ins_get (hok : HOk P w H h) (e : H a = some (.ins C dx fs)) : ∃ mA, ObjM h a dx C mA ∧ (∀ f, RelO (fs.lookup f) (mA f)) ∧ PySem.Within mA (fs.map (·.1)) ∧ fs.length ≤ 1000 ∧ H dx = some (.own a) := by
  obtain ⟨d, z, ne, ob, mA, n, r, q⟩ := (show ObjOk P w H h a (.ins C dx fs) from hok a _ e)
  exact ⟨mA, ⟨ob, n, ne⟩, r, q, z, d⟩
end

structure Cls (K : PySem.W.Frag) (C : Addr) : Prop where
  pg : PySem.W.plainGet K C Str.empty = true
  hd : PySem.W.hasDictIn K C = true
  po : PySem.W.plainOver K C = true
  sa : PySem.W.findIn K (.ref C) "__setattr__" = some (some (.builtin "object.__setattr__"))
theorem Cls.get {K : PySem.W.Frag} {C : Addr} (c : Cls K C) (f : Str) : PySem.W.plainGet K C f = true := c.pg
noncomputable def NoAttr (K : PySem.W.Frag) (C : Addr) (f : Str) : Prop := PySem.W.findIn K (.ref C) f = some none
theorem NoAttr.taker {K : PySem.W.Frag} {C : Addr} {f : Str} (n : NoAttr K C f) : PySem.W.takerIn K C f = some none := by
  unfold PySem.W.takerIn
  rw [show PySem.W.findIn K (.ref C) f = some none from n]
  rfl
structure Meth (K : PySem.W.Frag) (C : Addr) (m : Str) (f : Addr) : Prop where
  at_ : PySem.W.findIn K (.ref C) m = some (some (.ref f))
  fn : PySem.W.isFn K (.ref f) = true
  kp : PySem.W.keepIn K (.ref f) = true

section
variable {X : Cx} {pins : List (Addr × Obj)} {σ : St} {H : Hp} {s : Shared} {a C dx : Addr} {fs : List (Str × V)} {f : Str} {v : V} {A : Around} {E : Value → Shared → Prop}

theorem getattr_ok {b : Bool} {Q : Value → Shared → Prop} (I : Inv X pins σ H s) (e : H a = some (.ins C dx fs)) (c : Cls X.K C) (n : NoAttr X.K C f) (l : fs.lookup f = some v)
    (h : ∀ u s', Inv X pins σ H s' → RelV v u → Q u s') : wpAny (model X.prog X.w) A (getAttr (.ref a) f b) Q E s := by
  obtain ⟨mA, O, r, _, _, _⟩ := ins_get I.hok e
  obtain ⟨u, hu, ru⟩ := RelO.some_of (v := v) (o := mA f) (by rw [← l]; exact r f)
  exact get_map I.kIn O (c.get f) c.hd n hu (handed_of ru) (h u _ (I.tok _) ru)


theorem getmeth_ok {m : Str} {g : Addr} {pl : Sem Bool} {Q : Value × List Value → Shared → Prop} (I : Inv X pins σ H s) (e : H a = some (.ins C dx fs)) (c : Cls X.K C) (k : Meth X.K C m g) (l : fs.lookup m = none)
    (h : Q (.ref g, [.ref a]) s) : wpAny (model X.prog X.w) A (getMethod (.ref a) m pl) Q E s := by
  obtain ⟨mA, O, r, _, _, _⟩ := ins_get I.hok e
  have hn : mA m = none := RelO.none_of (by rw [← l]; exact r m)
  exact get_meth I.kIn O (c.get m) k.at_ k.fn hn h

theorem setattr_ok {y : V} {u : Value} {Q : Unit → Shared → Prop} (I : Inv X pins σ H s) (e : H a = some (.ins C dx fs)) (c : Cls X.K C) (n : NoAttr X.K C f) (hl : fs.length < 1000) (ry : RelV y u)
    (h : ∀ s', Inv X pins σ (upd H a (.ins C dx (putF f y fs))) s' → Q () s') : wpAny (model X.prog X.w) A (setAttr (.ref a) f u) Q E s := by
  obtain ⟨mA, O, r, wi, _, ho⟩ := ins_get I.hok e
  have hz : (fs.map (·.1)).length ≤ sizeLine := by rw [List.length_map, sizeLine_eq]; (first | lia | omega)
  refine set_map I.kIn O c.sa c.po n.taker c.hd wi hz fun h' O' sb => h _ ?_
  have hd : ∃ o, h'.get? dx = some o := let ⟨o, _, _, e', _⟩ := O'.ns; ⟨o, e'⟩
  refine I.write (x := a) (e := dx) (by rw [e]; exact True.intro) (.inr ho) (fun b q hb z => (sb.2 b hb).trans z) hd ?_
  refine ⟨by rw [upd_ne O.ne]; exact ho, ?_, O.ne, O'.obj, _, O'.ns, fun g => ?_, fun g hg => ?_⟩
  · have := length_putF f y fs; (first | lia | omega)
  · show RelO ((putF f y fs).lookup g) (if g = f then some u else mA g)
    rw [lookup_putF]
    by_cases q : g = f
    · rw [if_pos q, if_pos q]; exact ry
    · rw [if_neg q, if_neg q]; exact r g
  · by_cases q : g = f
    · rw [q]; exact (keys_putF f y fs).1
    · refine (keys_putF f y fs).2 g (wi g fun z => hg ?_)
      show (if g = f then some u else mA g) = none
      rw [if_neg q]; exact z

theorem Inv.made (I : Inv X pins σ H s) : Inv X pins σ (upd (upd H s.heap.objs.size (.own (s.heap.objs.size + 1))) (s.heap.objs.size + 1) (.ins C s.heap.objs.size []))
    { s with heap := (s.heap.push PySem.W.emptyDict).push (PySem.W.instObj C s.heap.objs.size) } := by
  have e1 : (s.heap.push PySem.W.emptyDict).get? s.heap.objs.size = some PySem.W.emptyDict := Heap.get?_push_size s.heap rfl
  have e2 : ((s.heap.push PySem.W.emptyDict).push (PySem.W.instObj C s.heap.objs.size)).get? (s.heap.objs.size + 1) = some (PySem.W.instObj C s.heap.objs.size) := by
    have := Heap.get?_push_size (s.heap.push PySem.W.emptyDict) (o := PySem.W.instObj C s.heap.objs.size) rfl
    rwa [Heap.size_push] at this
  have e3 : (s.heap.push PySem.W.emptyDict).Ns s.heap.objs.size (fun _ => none) := ⟨PySem.W.emptyDict, #[], _, e1, rfl, (fun e he => absurd he (by simp)), fun _ => rfl⟩
  have I1 := I.laid (a := s.heap.objs.size) (o := .own (s.heap.objs.size + 1)) (h' := s.heap.push PySem.W.emptyDict) (t' := s.toks) (fun b u q => Heap.get?_push_of_some _ q) (Nat.le_refl _) ⟨_, e1⟩
  refine I1.laid (a := s.heap.objs.size + 1) (o := .ins C s.heap.objs.size []) (t' := s.toks) (fun b u q => Heap.get?_push_of_some _ q) (Nat.le_of_eq (Heap.size_push _ _)) ?_
  have ne : s.heap.objs.size ≠ s.heap.objs.size + 1 := Nat.ne_of_lt (Nat.lt_succ_self _)
  refine ⟨by rw [upd_ne ne, upd_same], Nat.zero_le _, ne, e2, fun _ => none, (Heap.Ns1.of_empty e3).at fun o q => Heap.get?_push_of_some _ q, fun _ => True.intro, fun y hy => absurd rfl hy⟩

theorem attr_of {prog : Program} {w : World} {env : Env} {e : Expr} {f : Str} {pos : Pos} {s : Shared} {Q : Value → Shared → Prop} (hb : attributeBase e f env (eval e env) = eval e env)
    (h : wpAny (model prog w) A (eval e env) (fun o s₁ => wpAny (model prog w) A (getAttr o f true) Q E s₁) E s) : wpAny (model prog w) A (eval (.Attribute e f pos) env) Q E s :=
  Attribute_any_ h (by rw [arm_eval_Attribute, hb])
end

inductive PtFld (K : PySem.W.Frag) (f : Str) (x : V) (H : Hp) (Q : VK) : Prop
  | mk (a C dx : Addr) (fs : List (Str × V)) (v : V) (h0 : x = .ref a) (h1 : H a = some (.ins C dx fs)) (h2 : Cls K C) (h3 : NoAttr K C f) (h4 : fs.lookup f = some v) (h5 : Q v H) : PtFld K f x H Q
noncomputable def tFld (K : PySem.W.Frag) (ta : TE) (f : Str) : TE := fun σ H Q => ta σ H fun x H1 => PtFld K f x H1 Q
noncomputable def sFld (K : PySem.W.Frag) (ta tv : TE) (f : Str) : TS := fun D σ H => tv σ H fun y H1 => ta σ H1 fun x H2 => ∃ a C dx fs, x = .ref a ∧ H2 a = some (.ins C dx fs) ∧ Cls K C ∧ NoAttr K C f ∧ fs.length < 1000 ∧
  D.nx σ (upd H2 a (.ins C dx (putF f y fs)))
noncomputable def InOp (X : Cx) (op : Operator) (rd : V → V → Hp → VK → Prop) : Prop :=
  ∀ (pins : List (Addr × Obj)) (s : Shared) (σ : St) (H : Hp) (x y : V) (u v : Value) (Q : VK), Inv X pins σ H s → RelV x u → RelV y v → rd x y H Q → wpAny (model X.prog X.w) X.A (inplaceOp op u v) (EP X pins σ Q) X.xe s
noncomputable def sFldAug (K : PySem.W.Frag) (ta tv : TE) (rd : V → V → Hp → VK → Prop) (f : Str) : TS := fun D σ H => ta σ H fun x H1 => ∃ a C dx fs v, x = .ref a ∧ H1 a = some (.ins C dx fs) ∧ Cls K C ∧ NoAttr K C f ∧ fs.lookup f = some v ∧
  tv σ H1 fun y H2 => rd v y H2 fun z H3 => ∃ dx' fs', H3 a = some (.ins C dx' fs') ∧ fs'.length < 1000 ∧ D.nx σ (upd H3 a (.ins C dx' (putF f z fs')))

section
variable {X : Cx} {o e value : Expr} {f : Str} {pos pos' tpos : Pos} {ta tv : TE}
theorem pe_fld (he : PE X e ta) (hb : attributeBase e f X.env (eval e X.env) = eval e X.env) : PE X (.Attribute e f pos) (tFld X.K ta f) := by
  intro pins s σ H Q I h
  refine attr_of hb (thn (he pins s σ H _ I h) fun u s1 ⟨x, H1, I1, rx, a, C, dx, fs, v, ex, ea, c, n, l, q⟩ => ?_)
  subst ex
  obtain rfl : u = Value.ref a := rx
  exact getattr_ok I1 ea c n l fun u' s2 I2 ru => ⟨v, H1, I2, ru, q⟩
theorem ps_fld (ha : PE X o ta) (hv : PE X value tv) (hs : swapsWith value (some (.Attribute o f pos')) pos.line X.env = pure false) : PS X (.Assign [.Attribute o f pos'] value pos) (sFld X.K ta tv f) := by
  intro pins s σ H D I h
  refine plainObj_wpAny_Assign_Attribute (thn (hv pins s σ H _ I h) fun u s1 ⟨y, H1, I1, ry, q⟩ => thn (ha pins s1 σ H1 _ I1 q) fun ov s2 ⟨x, H2, I2, rx, a, C, dx, fs, ex, ea, c, n, l, q2⟩ => ?_) hs
  subst ex
  obtain rfl : ov = Value.ref a := rx
  exact setattr_ok I2 ea c n l ry fun s3 I3 => ⟨σ, _, I3, q2⟩
theorem ps_fldaug {op : Operator} {rd : V → V → Hp → VK → Prop} (ha : PE X o ta) (hv : PE X value tv) (hop : InOp X op rd) : PS X (.AugAssign (.Attribute o f tpos) op value pos) (sFldAug X.K ta tv rd f) := by
  intro pins s σ H D I h
  refine wpAny_AugAssign_AttributeAny (thn (ha pins s σ H _ I h) fun ov s1 ⟨x, H1, I1, rx, a, C, dx, fs, v, ex, ea, c, n, l, q⟩ => ?_)
  subst ex
  obtain rfl : ov = Value.ref a := rx
  refine getattr_ok I1 ea c n l fun u s2 I2 ru => thn (hv pins s2 σ H1 _ I2 q) fun w3 s3 ⟨y, H2, I3, ry, q3⟩ => thn (hop pins s3 σ H2 v y u w3 _ I3 ru ry q3) fun w4 s4 ⟨z, H3, I4, rz, dx', fs', ea', l', q4⟩ => ?_
  exact setattr_ok I4 ea' c n l' rz fun s5 I5 => ⟨σ, _, I5, q4⟩
noncomputable def rAdd : V → V → Hp → VK → Prop := fun x y H Q => ∃ i j, x = .int i ∧ y = .int j ∧ Q (.int (i + j)) H
theorem in_add : InOp X .Add rAdd := by
  rintro pins s σ H x y u v Q I rx ry ⟨i, j, rfl, rfl, q⟩
  obtain ⟨t, rfl⟩ := (show ∃ t, u = Value.int i t from rx)
  obtain ⟨t', rfl⟩ := (show ∃ t', v = Value.int j t' from ry)
  exact PyProof.Rows.iadd_int ⟨.int (i + j), H, I.tok _, ⟨_, rfl⟩, q⟩

theorem methcall_of {pl : Sem Bool} {m : Str} {apos : Pos} {args : List Expr} {pins : List (Addr × Obj)} {s : Shared} {σ : St} {H : Hp} {Q : Value → Shared → Prop} {te : TE} (he : PE X e te) (I : Inv X pins σ H s)
    (h : te σ H fun x H1 => ∃ a C dx fs g, x = .ref a ∧ H1 a = some (.ins C dx fs) ∧ Cls X.K C ∧ Meth X.K C m g ∧ fs.lookup m = none ∧
      ∀ s1, Inv X pins σ H1 s1 → wpAny (model X.prog X.w) X.A (callWith pos (.ref g) [.ref a] (backTo pos (starEach args X.env)) (backToKw pos (keywordEach [] X.env))) Q X.xe s1)
    (ht : eval (.Call (.Attribute e m apos) args [] pos) X.env = (do
      let ov ← eval e X.env
      standAt apos.atName
      let (f, first) ← holding [ov] (getMethod ov m pl)
      callWith pos f first (backTo pos (starEach args X.env)) (backToKw pos (keywordEach [] X.env)))) :
    wpAny (model X.prog X.w) X.A (eval (.Call (.Attribute e m apos) args [] pos) X.env) Q X.xe s := by
  refine PySem.W.methodCall_KW (pl := pl) (thn (he pins s σ H _ I h) fun u s1 ⟨x, H1, I1, rx, a, C, dx, fs, g, ex, ea, c, k, l, q⟩ => ?_) ht
  subst ex
  obtain rfl : u = Value.ref a := rx
  exact getmeth_ok I1 ea c k l (q s1 I1)
end

section
variable {X : Cx} {pins : List (Addr × Obj)} {σ : St} {H : Hp} {s : Shared} {A : Around} {E : Value → Shared → Prop} {Q : Value → Shared → Prop} {c : Value} {b : Bool}
end
end L2

namespace L2
open PySem PySem.Spec PyProof.Rows

structure Room (k : Nat) (A : Around) : Prop where
  hd : A.handled = none
  dp : A.depth + 3 * k + 5 < recursionLimit
  un : A.units + 16 * k + 200 < cLine
theorem Room.mono {j k : Nat} {A : Around} (r : Room k A) (h : j ≤ k) : Room j A := ⟨r.hd, by have := r.dp; (first | lia | omega), by have := r.un; (first | lia | omega)⟩
theorem Room.deeper {k : Nat} {A : Around} (r : Room (k + 1) A) (env : Env) : Room k (A.deeper env) :=
  ⟨r.hd, by have := r.dp; show A.depth + 1 + 3 * k + 5 < _; (first | lia | omega), by have := r.un; show A.units + 3 + 16 * k + 200 < _; (first | lia | omega)⟩
theorem make_depth {A : Around} {C : Addr} {us : List Value} {kw : List (Str × Value)} : (A.under (.builtin "type.__call__" ⟨.ref C :: us, kw⟩)).depth = A.depth + 1 := by
  first | rfl | simp [Around.under, Code.weight, Code.isCreation, Code.isGuard, Code.isCaller, Code.frames, Code.isFrame, guardIds]
theorem make_units {A : Around} {C : Addr} {us : List Value} {kw : List (Str × Value)} : (A.under (.builtin "type.__call__" ⟨.ref C :: us, kw⟩)).units = A.units + 1 := by
  first | rfl | simp [Around.under, Code.cUnits, Code.frames, Code.isFrame]
theorem Room.make {k : Nat} {A : Around} (r : Room (k + 1) A) (C : Addr) (us : List Value) (kw : List (Str × Value)) : Room k (A.under (.builtin "type.__call__" ⟨.ref C :: us, kw⟩)) :=
  ⟨r.hd, by have := r.dp; rw [make_depth]; (first | lia | omega), by have := r.un; rw [make_units]; (first | lia | omega)⟩
theorem Room.depth {k : Nat} {A : Around} (r : Room k A) : A.depth < recursionLimit := by have := r.dp; (first | lia | omega)
theorem Room.units {k : Nat} {A : Around} (r : Room k A) : A.units + 64 < cLine := by have := r.un; (first | lia | omega)

noncomputable def tNil : TA := fun _ H Q => Q [] H
noncomputable def tCons (ta : TE) (tr : TA) : TA := fun σ H Q => ta σ H fun x H1 => tr σ H1 fun xs H2 => Q (x :: xs) H2
section
variable {X : Cx} {e : Expr} {es : List Expr} {te : TE} {t : TA} {pos : Pos}
theorem pa_nil : PA X [] tNil := fun _ _ _ _ H Q I h => Calls.spliced_nil ⟨[], H, I, .nil, h⟩
theorem pa_cons (ha : PE X e te) (hr : PA X es t) (hs : starEach (e :: es) X.env = (false, eval e X.env) :: starEach es X.env := by rfl) : PA X (e :: es) (tCons te t) := by
  intro pos pins s σ H Q I h
  rw [hs]
  show wpAny _ _ (spliced ((false, eval e X.env) :: backTo pos (starEach es X.env))) _ _ s
  refine Calls.spliced_cons (thn (ha pins s σ H _ I h) fun u s1 ⟨x, H1, I1, r1, q1⟩ => ?_)
  exact thn (hr pos pins s1 σ H1 _ I1 q1) fun us s2 ⟨xs, H2, I2, r2, q2⟩ => ⟨x :: xs, H2, I2, .cons r1 r2, q2⟩

noncomputable def tTup (t : TA) : TE := fun σ H Q => t σ H fun xs H1 => xs.length ≤ sizeLine ∧ ∀ p, H1 p = none → Q (.ref p) (upd H1 p (.tup xs))
noncomputable def tLst (t : TA) : TE := fun σ H Q => t σ H fun xs H1 => xs.length ≤ sizeLine ∧ ∀ p, H1 p = none → Q (.ref p) (upd H1 p (.lst xs))
theorem pe_tup {x1} (h : PA X es t) : PE X (.Tuple es x1 pos) (tTup t) := by
  intro pins s σ H Q I hq
  refine wpAny_Tuple_spliced (thn (h pos pins s σ H _ I hq) fun us s1 ⟨xs, H1, I1, r, z, q⟩ => ⟨by rw [← r.length]; exact z, ?_⟩)
  have hf : H1 s1.heap.objs.size = none := I1.hok.fresh (Nat.le_refl _)
  refine ⟨.ref s1.heap.objs.size, upd H1 s1.heap.objs.size (.tup xs), I1.laid (t' := s1.toks) (fun b u e => Heap.get?_push_of_some _ e) (Nat.le_refl _) ?_, rfl, q _ hf⟩
  exact ⟨z, us, r, ⟨_, Heap.get?_push_size _ rfl, rfl, _, rfl⟩⟩
theorem pe_lst (h : PA X es t) : PE X (.List es pos) (tLst t) := by
  intro pins s σ H Q I hq
  refine wpAny_List_spliced (thn (h pos pins s σ H _ I hq) fun us s1 ⟨xs, H1, I1, r, z, q⟩ => ⟨by rw [← r.length]; exact z, ?_⟩)
  have hf : H1 s1.heap.objs.size = none := I1.hok.fresh (Nat.le_refl _)
  refine ⟨.ref s1.heap.objs.size, upd H1 s1.heap.objs.size (.lst xs), I1.laid (t' := s1.toks) (fun b u e => Heap.get?_push_of_some _ e) (Nat.le_refl _) ?_, rfl, q _ hf⟩
  exact ⟨z, us, 0, r, Heap.get?_push_size _ rfl⟩
end

noncomputable abbrev Sp := List V → Hp → VK → XK → Prop
noncomputable abbrev CXT := List Env → Hp → Shared → XK → Value → Shared → Prop

structure Env0 (P : Program) (w : World) (K : PySem.W.Frag) (mg : Str → Option Value) (base : Heap) (A : Around) (outer : List Env) (s : Shared) (H : Hp) : Prop where
  frames : A.frames = some outer
  mod : Mod K mg base
  bs : ∀ b o, base.get? b = some o → s.heap.get? b = some o ∧ H b = none
  bsz : base.objs.size ≤ s.heap.objs.size
  funs : s.heap.FunFrames base outer
  frf : ∀ b ∈ frs outer, H b = none
  hok : HOk P w H s.heap
  bare : AllBare s.gens
noncomputable def CE (outer : List Env) (P : Program) (w : World) (H : Hp) (s : Shared) (Q : VK) (u : Value) (s' : Shared) : Prop :=
  ∃ v H', s'.os = s.os ∧ AllBare s'.gens ∧ Un (frs outer) [] H H' s.heap s'.heap ∧ HOk P w H' s'.heap ∧ RelV v u ∧ Q v H'
noncomputable def CR (CX : CXT) (outer : List Env) (P : Program) (w : World) (H : Hp) (s : Shared) (Q : VK) (E : XK) (r : Result) (s' : Shared) : Prop :=
  match r with
  | .ok (.ret u) => CE outer P w H s Q u s'
  | .ok _ => False
  | .error e => CX outer H s E e s'
structure FnOk (P : Program) (w : World) (K : PySem.W.Frag) (mg : Str → Option Value) (base : Heap) (CX : CXT) (k : Nat) (f : Addr) (fd : FuncData) (ps : List Str) (sp : Sp) : Prop where
  len : ∀ vs H Q E, sp vs H Q E → vs.length = ps.length
  run : ∀ (A : Around) (outer : List Env) (s : Shared) (H : Hp) (args : Args) (us : List Value) (vs : List V) (Q : VK) (E : XK), Room k A → Env0 P w K mg base A outer s H → BindsTo s fd args (ps.zip us) → Vals vs us → sp vs H Q E →
    codeAny (model P w) A (.call (.ref f) args) (CR CX outer P w H s Q E) s
theorem FnOk.imp {P : Program} {w : World} {K : PySem.W.Frag} {mg : Str → Option Value} {base : Heap} {CX : CXT} {k : Nat} {f : Addr} {fd : FuncData} {ps : List Str} {sp sp' : Sp} (F : FnOk P w K mg base CX k f fd ps sp)
    (h : ∀ vs H Q E, sp' vs H Q E → sp vs H Q E) : FnOk P w K mg base CX k f fd ps sp' :=
  ⟨fun vs H Q E q => F.len vs H Q E (h _ _ _ _ q), fun A outer s H args us vs Q E hr he hb hv hs => F.run A outer s H args us vs Q E hr he hb hv (h _ _ _ _ hs)⟩

theorem Env0.make {P : Program} {w : World} {K : PySem.W.Frag} {mg : Str → Option Value} {base : Heap} {A : Around} {outer : List Env} {s : Shared} {H : Hp} (e : Env0 P w K mg base A outer s H) (C : Addr) (us : List Value) (kw : List (Str × Value)) :
    Env0 P w K mg base (A.under (.builtin "type.__call__" ⟨.ref C :: us, kw⟩)) outer s H := ⟨by first | exact e.frames | (simpa [Around.under, Code.envs, Code.isFrame, pushEnvs] using e.frames), e.mod, e.bs, e.bsz, e.funs, e.frf, e.hok, e.bare⟩

section
variable {X : Cx} {pins : List (Addr × Obj)} {σ : St} {H : Hp} {s s' : Shared}
theorem Inv.env0 (I : Inv X pins σ H s) : Env0 X.prog X.w X.K X.mg X.base X.A X.stack s H :=
  ⟨I.ok.frames, I.ok.mod, I.bs, Nat.le_trans I.ok.bsz I.sz, I.stack, I.stkFree, I.hok, I.bare⟩
theorem Inv.after {Q : VK} {u : Value} (I : Inv X pins σ H s) (h : CE X.stack X.prog X.w H s Q u s') : EP X pins σ Q u s' := by
  obtain ⟨v, H', os, bare, un, hok, r, q⟩ := h
  obtain ⟨hh, g, d, t, os'⟩ := s'
  obtain rfl : os' = s.os := os
  exact ⟨v, H', I.call (h' := hh) (g' := g) (d' := d) (t' := t) (ch := []) un hok bare (fun b z => absurd z (by simp)), r, q⟩
end

noncomputable def tCall (sp : Sp) (dvs : List V) (E : XK) (t : TA) : TE := fun σ H Q => t σ H fun vs H1 => sp (vs ++ dvs) H1 Q E
noncomputable def tMeth (C : Addr) (m : Str) (sp : Sp) (dvs : List V) (E : XK) (ta : TE) (t : TA) : TE := fun σ H Q => ta σ H fun x H1 => ∃ a dx fs, x = .ref a ∧ H1 a = some (.ins C dx fs) ∧ fs.lookup m = none ∧
  t σ H1 fun vs H2 => sp (x :: (vs ++ dvs)) H2 Q E
noncomputable def tMake (C : Addr) (sp : Sp) (dvs : List V) (E : XK) (t : TA) : TE := fun σ H Q => t σ H fun vs H1 => ∀ x dx, H1 x = none → H1 dx = none → dx ≠ x →
  sp (.ref x :: (vs ++ dvs)) (upd (upd H1 dx (.own x)) x (.ins C dx [])) (fun v H2 => v = .non ∧ Q (.ref x) H2) E

noncomputable def Binds (K : PySem.W.Frag) (fd : FuncData) (ps : List Str) (ds : List Value) : Prop :=
  ∀ (s : Shared) (us : List Value), K.In s.heap → (us ++ ds).length = ps.length → BindsTo s fd ⟨us, []⟩ (ps.zip (us ++ ds))
theorem Binds.all {K : PySem.W.Frag} {fd : FuncData} {ps : List Str} (h : ∀ us : List Value, us.length = ps.length → bindArgs fd ⟨us, []⟩ = pure (ps.zip us)) : Binds K fd ps [] := fun s us _ hl => by
  rw [List.append_nil] at hl ⊢
  exact .of_eq (h us hl)

noncomputable def Passes (CX : CXT) (X : Cx) (E : XK) : Prop := ∀ (pins : List (Addr × Obj)) (σ : St) (H : Hp) (s : Shared) (e : Value) (s' : Shared), Inv X pins σ H s → CX X.stack H s E e s' → X.xe e s'

section
variable {X : Cx} {CX : CXT} {k : Nat} {f C : Addr} {fd : FuncData} {ps : List Str} {sp : Sp} {dvs : List V} {ds : List Value} {E : XK} {x m : Str} {p pos apos : Pos} {e o : Expr} {es : List Expr} {ta : TE} {t : TA}

theorem run_fn {pins : List (Addr × Obj)} {σ : St} {H : Hp} {s : Shared} {Q : VK} {us : List Value} {vs : List V} (F : FnOk X.prog X.w X.K X.mg X.base CX k f fd ps sp) (hr : Room k X.A) (hb : Binds X.K fd ps ds) (hd : Vals dvs ds) (hx : Passes CX X E)
    (I : Inv X pins σ H s) (r : Vals vs us) (h : sp (vs ++ dvs) H Q E) : wpAny (model X.prog X.w) X.A (call (.ref f) us) (EP X pins σ Q) X.xe s := by
  have r2 : Vals (vs ++ dvs) (us ++ ds) := r.append hd
  have hl : (us ++ ds).length = ps.length := by rw [← r2.length]; exact F.len _ _ _ _ h
  refine wpAny_call (codeAny_mono (F.run X.A X.stack s H ⟨us, []⟩ (us ++ ds) (vs ++ dvs) Q E hr I.env0 (hb s us I.kIn hl) r2 h) fun r s' hq => ?_)
  cases r with
  | error e => exact hx pins σ H s e s' I hq
  | ok fl =>
    cases fl with
    | ret u => exact I.after hq
    | next => exact False.elim hq
    | brk => exact False.elim hq
    | cont => exact False.elim hq

theorem pe_call (F : FnOk X.prog X.w X.K X.mg X.base CX k f fd ps sp) (hr : Room k X.A) (hg : Gl X x) (hm : X.mg x = some (.ref f)) (hk : PySem.W.keepIn X.K (.ref f) = true) (hb : Binds X.K fd ps ds) (hd : Vals dvs ds) (hx : Passes CX X E)
    (ha : PA X (e :: es) t) (hdb : (x == ("__debug__" : Str)) = false := by decide) (he : starEach (e :: es) X.env = (false, eval e X.env) :: starEach es X.env := by rfl) (hpl : (backTo pos (starEach es X.env)).any (·.1) = false := by rfl) :
    PE X (.Call (.Name x p) (e :: es) [] pos) (tCall sp dvs E t) := by
  intro pins s σ H Q I h
  refine wpAny_Call_Name_kw (ld_glob I hg hm ?_ hdb)
  refine PySem.W.callWith_K (h₀ := X.base) I.ok.mod.kin hk (thn (ha pos pins s σ H _ I h) fun us s1 ⟨vs, H1, I1, r, q⟩ => ⟨I1.kIn, ?_⟩) he hpl
  exact run_fn F hr hb hd hx I1 r q

theorem pe_meth {pl : Sem Bool} (he : PE X o ta) (c : Cls X.K C) (hm : Meth X.K C m f) (F : FnOk X.prog X.w X.K X.mg X.base CX k f fd ps sp) (hr : Room k X.A) (hb : Binds X.K fd ps ds) (hd : Vals dvs ds) (hx : Passes CX X E) (ha : PA X (e :: es) t)
    (hst : starEach (e :: es) X.env = (false, eval e X.env) :: starEach es X.env := by rfl) (hpl : (backTo pos (starEach es X.env)).any (·.1) = false := by rfl)
    (ht : eval (.Call (.Attribute o m apos) (e :: es) [] pos) X.env = (do
      let ov ← eval o X.env
      standAt apos.atName
      let (f, first) ← holding [ov] (getMethod ov m pl)
      callWith pos f first (backTo pos (starEach (e :: es) X.env)) (backToKw pos (keywordEach [] X.env))) := by rfl) :
    PE X (.Call (.Attribute o m apos) (e :: es) [] pos) (tMeth C m sp dvs E ta t) := by
  intro pins s σ H Q I h
  refine PySem.W.methodCall_KW (pl := pl) (thn (he pins s σ H _ I h) fun u s1 ⟨x, H1, I1, rx, a, dx, fs, ex, ea, l, q⟩ => ?_) ht
  subst ex
  obtain rfl : u = Value.ref a := rx
  refine getmeth_ok I1 ea c hm l ?_
  refine PySem.W.callWith_K (first := [.ref a]) (h₀ := X.base) I.ok.mod.kin hm.kp (thn (ha pos pins s1 σ H1 _ I1 q) fun us s2 ⟨vs, H2, I2, r, q2⟩ => ⟨I2.kIn, ?_⟩) hst hpl
  exact run_fn (us := .ref a :: us) (vs := .ref a :: vs) F hr hb hd hx I2 (.cons rfl r) q2
theorem pe_meth0 {pl : Sem Bool} (he : PE X o ta) (c : Cls X.K C) (hm : Meth X.K C m f) (F : FnOk X.prog X.w X.K X.mg X.base CX k f fd ps sp) (hr : Room k X.A) (hb : Binds X.K fd ps ds) (hd : Vals dvs ds) (hx : Passes CX X E)
    (ht : eval (.Call (.Attribute o m apos) [] [] pos) X.env = (do
      let ov ← eval o X.env
      standAt apos.atName
      let (f, first) ← holding [ov] (getMethod ov m pl)
      callWith pos f first (backTo pos (starEach [] X.env)) (backToKw pos (keywordEach [] X.env))) := by rfl) :
    PE X (.Call (.Attribute o m apos) [] [] pos) (tMeth C m sp dvs E ta tNil) := by
  intro pins s σ H Q I h
  refine PySem.W.methodCall_KW (pl := pl) (thn (he pins s σ H _ I h) fun u s1 ⟨x, H1, I1, rx, a, dx, fs, ex, ea, l, q⟩ => ?_) ht
  subst ex
  obtain rfl : u = Value.ref a := rx
  refine getmeth_ok I1 ea c hm l ?_
  exact PySem.W.callWith_K0 (first := [.ref a]) I1.kIn hm.kp (run_fn (us := [.ref a]) (vs := [.ref a]) F hr hb hd hx I1 (.cons rfl .nil) q)

structure Mk (K : PySem.W.Frag) (C f : Addr) : Prop where
  makes : PySem.W.makesIn K C = true
  init : PySem.W.findIn K (.ref C) "__init__" = some (some (.ref f))
  fn : PySem.W.isFn K (.ref f) = true
  kp : PySem.W.keepIn K (.ref C) = true

theorem run_make {pins : List (Addr × Obj)} {σ : St} {H : Hp} {s : Shared} {Q : VK} {us : List Value} {vs : List V} (M : Mk X.K C f) (F : FnOk X.prog X.w X.K X.mg X.base CX k f fd ps sp) (hr : Room (k + 1) X.A) (hb : Binds X.K fd ps ds) (hd : Vals dvs ds)
    (hx : Passes CX X E) (I : Inv X pins σ H s) (r : Vals vs us)
    (h : ∀ x dx, H x = none → H dx = none → dx ≠ x → sp (.ref x :: (vs ++ dvs)) (upd (upd H dx (.own x)) x (.ins C dx [])) (fun v H2 => v = .non ∧ Q (.ref x) H2) E) :
    wpAny (model X.prog X.w) X.A (call (.ref C) us) (EP X pins σ Q) X.xe s := by
  have hq := h (s.heap.objs.size + 1) s.heap.objs.size (I.hok.fresh (Nat.le_succ _)) (I.hok.fresh (Nat.le_refl _)) (Nat.ne_of_lt (Nat.lt_succ_self _))
  have I2 := Inv.made (C := C) I
  have r2 : Vals (V.ref (s.heap.objs.size + 1) :: (vs ++ dvs)) (Value.ref (s.heap.objs.size + 1) :: (us ++ ds)) := .cons rfl (r.append hd)
  have hl : (Value.ref (s.heap.objs.size + 1) :: us ++ ds).length = ps.length := by
    have e := r2.length
    rw [F.len _ _ _ _ hq] at e
    exact e.symm
  refine wpAny_call (make_map (f := f) I.kIn M.makes M.init (beq_iff_eq.mp M.fn) (codeAny_mono (F.run _ X.stack _ _ ⟨Value.ref (s.heap.objs.size + 1) :: us, []⟩ (Value.ref (s.heap.objs.size + 1) :: (us ++ ds)) _ _ E (hr.make C us [])
    (I2.env0.make C us []) (hb _ (Value.ref (s.heap.objs.size + 1) :: us) I2.kIn hl) r2 hq) fun r s' hq' => ?_))
  cases r with
  | error e => exact hx pins σ _ _ e s' I2 hq'
  | ok fl =>
    cases fl with
    | ret u =>
      obtain ⟨v, H', I3, rv, ev, q3⟩ := I2.after hq'
      subst ev
      exact ⟨rv, ⟨V.ref (s.heap.objs.size + 1), H', I3, rfl, q3⟩⟩
    | next => exact False.elim hq'
    | brk => exact False.elim hq'
    | cont => exact False.elim hq'
theorem pe_make (M : Mk X.K C f) (F : FnOk X.prog X.w X.K X.mg X.base CX k f fd ps sp) (hr : Room (k + 1) X.A) (hg : Gl X x) (hm : X.mg x = some (.ref C)) (hb : Binds X.K fd ps ds) (hd : Vals dvs ds) (hx : Passes CX X E)
    (ha : PA X (e :: es) t) (hdb : (x == ("__debug__" : Str)) = false := by decide) (he : starEach (e :: es) X.env = (false, eval e X.env) :: starEach es X.env := by rfl) (hpl : (backTo pos (starEach es X.env)).any (·.1) = false := by rfl) :
    PE X (.Call (.Name x p) (e :: es) [] pos) (tMake C sp dvs E t) := by
  intro pins s σ H Q I h
  refine wpAny_Call_Name_kw (ld_glob I hg hm ?_ hdb)
  refine PySem.W.callWith_K (h₀ := X.base) I.ok.mod.kin M.kp (thn (ha pos pins s σ H _ I h) fun us s1 ⟨vs, H1, I1, r, q⟩ => ⟨I1.kIn, ?_⟩) he hpl
  exact run_make M F hr hb hd hx I1 r q
theorem pe_make0 (M : Mk X.K C f) (F : FnOk X.prog X.w X.K X.mg X.base CX k f fd ps sp) (hr : Room (k + 1) X.A) (hg : Gl X x) (hm : X.mg x = some (.ref C)) (hb : Binds X.K fd ps ds) (hd : Vals dvs ds) (hx : Passes CX X E)
    (hdb : (x == ("__debug__" : Str)) = false := by decide) : PE X (.Call (.Name x p) [] [] pos) (tMake C sp dvs E tNil) := by
  intro pins s σ H Q I h
  refine wpAny_Call_Name_kw (ld_glob I hg hm ?_ hdb)
  exact PySem.W.callWith_K0 I.kIn M.kp (run_make (us := []) M F hr hb hd hx I .nil h)
end

section
variable {X : Cx} {CX : CXT} {k : Nat} {f C : Addr} {fd : FuncData} {ps ks : List Str} {sp : Sp} {E : XK} {x m : Str} {p pos apos kpos : Pos} {e o : Expr} {es : List Expr} {kws : List Keyword} {te ta : TE} {t tk : TA} {nm : Option Str}

variable {g : List Value → List Value → List Value} {gV : List V → List V → List V}
end

structure FnScope (N P : List Str) (sc : Scope) : Prop where
  kind : sc.kind = .function
  co : sc.isCoroutine = false
  gen : sc.isGenerator = false
  nd : N.Nodup
  pre : N.take P.length = P
  par : ∀ x ∈ P, sc.names.lookup x = some .local ∨ sc.names.lookup x = some .cell
  nofree : ∀ y ∈ sc.names, y.2 ≠ .free

theorem bindL_out {kindOf : Str → Option NameKind} {x : Str} : ∀ {binds : List (Str × Value)} {m : Str → Option Value}, (∀ v, (x, v) ∉ binds) → bindL kindOf binds m x = m x
  | [], _, _ => rfl
  | (n, v) :: r, m, h => by
    unfold bindL
    rw [bindL_out fun w hw => h w (List.mem_cons_of_mem _ hw)]
    split
    · have : x ≠ n := by rintro rfl; exact h v List.mem_cons_self
      simp [this]
    · rfl
theorem bindC_out {kindOf : Str → Option NameKind} {x : Str} : ∀ {binds : List (Str × Value)} {m : Str → Option Value}, (∀ v, (x, v) ∉ binds) → bindC kindOf binds m x = m x
  | [], _, _ => rfl
  | (n, v) :: r, m, h => by
    unfold bindC
    rw [bindC_out fun w hw => h w (List.mem_cons_of_mem _ hw)]
    split
    · rfl
    · have : x ≠ n := by rintro rfl; exact h v List.mem_cons_self
      simp [this]
theorem bindL_get {kindOf : Str → Option NameKind} {x : Str} {v : Value} : ∀ {P : List Str} {vs : List Value} {i : Nat} {m : Str → Option Value}, P.Nodup → P[i]? = some x → vs[i]? = some v → kindOf x = some .local →
    bindL kindOf (P.zip vs) m x = some v
  | [], _, _, _, _, h, _, _ => by simp at h
  | _ :: _, [], _, _, _, _, h, _ => by simp at h
  | p :: P, w :: vs, 0, m, nd, h1, h2, hk => by
    simp at h1 h2; subst h1; subst h2
    show bindL kindOf ((p, w) :: P.zip vs) m p = _
    unfold bindL
    rw [bindL_out fun v hv => (List.nodup_cons.mp nd).1 (List.of_mem_zip hv).1, if_pos hk]
    simp
  | p :: P, w :: vs, i + 1, m, nd, h1, h2, hk => by
    show bindL kindOf ((p, w) :: P.zip vs) m x = _
    unfold bindL
    exact bindL_get (i := i) (List.nodup_cons.mp nd).2 (by simpa using h1) (by simpa using h2) hk
theorem bindC_get {kindOf : Str → Option NameKind} {x : Str} {v : Value} : ∀ {P : List Str} {vs : List Value} {i : Nat} {m : Str → Option Value}, P.Nodup → P[i]? = some x → vs[i]? = some v → kindOf x ≠ some .local →
    bindC kindOf (P.zip vs) m x = some v
  | [], _, _, _, _, h, _, _ => by simp at h
  | _ :: _, [], _, _, _, _, h, _ => by simp at h
  | p :: P, w :: vs, 0, m, nd, h1, h2, hk => by
    simp at h1 h2; subst h1; subst h2
    show bindC kindOf ((p, w) :: P.zip vs) m p = _
    unfold bindC
    rw [bindC_out fun v hv => (List.nodup_cons.mp nd).1 (List.of_mem_zip hv).1, if_neg hk]
    simp
  | p :: P, w :: vs, i + 1, m, nd, h1, h2, hk => by
    show bindC kindOf ((p, w) :: P.zip vs) m x = _
    unfold bindC
    exact bindC_get (i := i) (List.nodup_cons.mp nd).2 (by simpa using h1) (by simpa using h2) hk

noncomputable def start (N : List Str) (vs : List V) : St := vs.map some ++ List.replicate (N.length - vs.length) none

noncomputable def cxOf (CX : CXT) (P : Program) (w : World) (K : PySem.W.Frag) (mg : Str → Option Value) (base : Heap) (N : List Str) (qual : Str) (scope : Scope) (f : Addr) (cd : Value) (A : Around) (outer : List Env) (s : Shared) (H : Hp) (E : XK) : Cx where
  prog := P
  w := w
  K := K
  mg := mg
  base := base
  A := A.deeper (envOfC qual scope s.heap.objs.size f cd)
  N := N
  s₀ := s
  H₀ := H
  env := envOfC qual scope s.heap.objs.size f cd
  outer := outer
  stack := envOfC qual scope s.heap.objs.size f cd :: outer
  ex := []
  calm := true
  fn := fun _ => true
  pn := []
  xe := fun e s' => wpAny (model P w) (A.deeper (envOfC qual scope s.heap.objs.size f cd)) (leaving (envOfC qual scope s.heap.objs.size f cd) e) (fun _ s'' => CX outer H s E e s'') (fun e' s'' => CX outer H s E e' s'') s'

theorem cell_has {sc : Scope} {n : Nat} {x : Str} (h : sc.names.lookup x = some .cell) : ∃ c, (cellsFrom n sc.names []).lookup x = some c := by
  have q := PySem.W.cellsFrom_some sc.names n [] (.inl h)
  exact Option.isSome_iff_exists.mp q

theorem inv_start {CX : CXT} {P : Program} {w : World} {K : PySem.W.Frag} {mg : Str → Option Value} {base : Heap} {N ps : List Str} {qual : Str} {scope : Scope} {f : Addr} {cd : Value} {A : Around} {outer : List Env} {s s1 : Shared} {H : Hp} {E : XK} {us : List Value} {vs : List V}
    (S : FnScope N ps scope) (hd : A.handled = none) (e0 : Env0 P w K mg base A outer s H) (hl : vs.length = ps.length) (r : Vals vs us)
    (x : InCallC s s.heap.objs.size (bindL (envOfC qual scope s.heap.objs.size f cd).kindOf (ps.zip us) fun _ => none) (cellsFrom (s.heap.objs.size + 1) scope.names []) (bindC (envOfC qual scope s.heap.objs.size f cd).kindOf (ps.zip us) fun _ => none) s1) :
    Inv (cxOf CX P w K mg base N qual scope f cd A outer s H E) [] (start N vs) H s1 := by
  have hpl : ps.length ≤ N.length := by have := congrArg List.length S.pre; rw [List.length_take] at this; (first | lia | omega)
  obtain ⟨h1, tk, rfl, hk⟩ := x.done
  have noA : ∀ b : Addr, b ∉ (cxOf CX P w K mg base N qual scope f cd A outer s H E).ex := fun b z => absurd (show b ∈ ([] : List Addr) from z) (by simp)
  refine ⟨⟨e0.mod, S.kind, rfl, rfl, Nat.le_refl _, fun y z c h1 h2 => ?_, fun y hy => ?_, fun y c _ h => ?_, fun _ => hd, Around.frames_deeper e0.frames, .inr ⟨rfl, rfl⟩, fun b z => absurd z (noA b), e0.bs, e0.bsz, fun b _ _ => noA b, fun b z => absurd z (noA b), e0.funs, e0.frf⟩,
    rfl, e0.bare, Un.kept hk, ⟨_, x.toInCall.ns, fun i y v h1 h2 h3 => ?_⟩, fun y c h => ⟨_, x.cell y c h⟩, e0.hok.fresh (Nat.le_refl _), fun y c h => ?_, fun p hp => absurd (show p ∈ ([] : List (Addr × Obj)) from hp) (by simp), e0.hok.kept hk, ?_⟩
  · exact name_of_addr x.apart (PySem.mem_of_lookup h1) (PySem.mem_of_lookup h2)
  · have hy : scope.names.lookup y = some .cell ∨ scope.names.lookup y = some .free := hy
    rcases hy with hy | hy
    · exact cell_has hy
    · exact absurd rfl (S.nofree _ (PySem.mem_of_lookup hy))
  · exact Nat.le_of_lt (x.above y c (PySem.mem_of_lookup h))
  · have hi : i < vs.length := by
      unfold start at h2
      by_cases hi : i < vs.length
      · exact hi
      · rw [List.getElem?_append_right (by simpa using hi)] at h2
        rw [List.getElem?_replicate] at h2
        split at h2 <;> cases h2
    have ha : vs[i]? = some v := by
      unfold start at h2
      rw [List.getElem?_append_left (by simpa using hi), List.getElem?_map] at h2
      cases e : vs[i]? with
      | none => rw [e] at h2; cases h2
      | some a => rw [e] at h2; cases h2; rfl
    obtain ⟨u, hu, rv⟩ := r.get ha
    have hp : ps[i]? = some y := by
      rw [← S.pre, List.getElem?_take_of_lt (by (first | lia | omega))]; exact h1
    have ndP : ps.Nodup := by rw [← S.pre]; exact S.nd.sublist (List.take_sublist _ _)
    refine ⟨u, rv, ?_⟩
    rcases S.par y (List.mem_of_getElem? hp) with k | k
    · exact .inl ⟨k, bindL_get ndP hp hu k⟩
    · obtain ⟨c, e⟩ := cell_has (n := s.heap.objs.size + 1) k
      refine .inr ⟨.inl k, c, e, ?_⟩
      have q := x.cell y c e
      rw [bindC_get ndP hp hu (by show scope.names.lookup y ≠ _; rw [k]; decide)] at q
      exact q
  · exact e0.hok.fresh (Nat.le_of_lt (x.above y c (PySem.mem_of_lookup h)))
  · unfold start
    show _ = N.length
    rw [List.length_append, List.length_map, List.length_replicate]
    (first | lia | omega)

theorem fn_of {CX : CXT} {P : Program} {w : World} {K : PySem.W.Frag} {mg : Str → Option Value} {base : Heap} {k : Nat} {f : Addr} {name qual : Str} {params : Arguments} {body : List Stmt} {scope : Scope} {dV kV doc pm cdv ct oc : Value} {an od : Option Addr}
    {osl : Array (Option Value)} {N ps : List Str} {sp : Sp} (lk : K.lookup f = some ⟨oc, od, .func (PySem.W.fnOf name qual params body scope dV kV doc pm an cdv ct), osl⟩) (hcd : PySem.W.codeIn K cdv qual = true) (S : FnScope N ps scope)
    (len : ∀ vs H Q E, sp vs H Q E → vs.length = ps.length)
    (hbody : ∀ (A : Around) (outer : List Env) (s : Shared) (H : Hp) (vs : List V) (Q : VK) (E : XK), Room k (A.deeper (envOfC qual scope s.heap.objs.size f cdv)) → sp vs H Q E →
      ∃ t, PSs (cxOf CX P w K mg base N qual scope f cdv A outer s H E) body t ∧ t { nx := fun _ H' => Q .non H', rt := Q } (start N vs) H) :
    FnOk P w K mg base CX (k + 1) f (PySem.W.fnOf name qual params body scope dV kV doc pm an cdv ct) ps sp := by
  refine ⟨len, fun A outer s H args us vs Q E hr e0 hb r hsp => ?_⟩
  have hl := len _ _ _ _ hsp
  have KX : K.In s.heap := e0.mod.kin.keeps fun b o e => (e0.bs b o e).1
  have lim : s.heap.NoLimit := e0.mod.nolimit.keeps fun b o e => (e0.bs b o e).1
  have hkind : ∀ y ∈ ps.zip us, scope.names.lookup y.1 = some .local ∨ (scope.names.lookup y.1 = some .cell ∧ ((cellsFrom (s.heap.objs.size + 1) scope.names []).lookup y.1).isSome = true) := fun ⟨n, v⟩ hy => by
    rcases S.par n (List.of_mem_zip hy).1 with q | q
    · exact .inl q
    · exact .inr ⟨q, PySem.W.cellsFrom_some _ _ _ (.inl q)⟩
  refine codeAny_call_function hr.depth (KX _ _ lk) rfl S.co S.gen rfl (PySem.W.codeRec_of KX hcd) (hb _ _ _ _ ?_)
  refine wpAny_newFunctionEnv_cells S.kind hkind fun env he s1 x => ?_
  subst he
  refine ⟨lim.keeps x.toInCall.keep, codeAny_func ?_⟩
  obtain ⟨t, ht, hq⟩ := hbody A outer s H vs Q E (hr.deeper _) hsp
  have I : Inv (cxOf CX P w K mg base N qual scope f cdv A outer s H E) [] (start N vs) H s1 := inv_start S hr.hd e0 hl r x
  refine wpAny_mono (ht [] s1 (start N vs) H _ I hq) (fun fl s' hs => ?_) fun e s' hs => hs
  have fin : ∀ {σ' : St} {H' : Hp} {v : V} {u : Value}, Inv (cxOf CX P w K mg base N qual scope f cdv A outer s H E) [] σ' H' s' → RelV v u → Q v H' → CE outer P w H s Q u s' :=
    fun {σ' H' v u} J rv q => ⟨v, H', J.os, J.bare, J.base, J.hok, rv, q⟩
  cases fl with
  | ret u =>
    obtain ⟨v, σ', H', J, rv, q⟩ := hs
    exact fin J rv q
  | next =>
    obtain ⟨σ', H', J, q⟩ := hs
    exact fin (v := V.non) (u := Value.none) J rfl q
  | brk =>
    obtain ⟨_, _, _, q⟩ := hs
    exact False.elim q
  | cont =>
    obtain ⟨_, _, _, q⟩ := hs
    exact False.elim q
end L2

namespace L2
open PySem PySem.Spec PyProof.Rows
section
variable {X : Cx} {x : Str} {p pos : Pos} {e : Expr} {es : List Expr} {t : TA} {id T : String} {r : List V → Hp → VK → Prop}

noncomputable def tCB (r : List V → Hp → VK → Prop) (t : TA) : TE := fun σ H Q => t σ H fun vs H1 => r vs H1 Q
theorem pe_callB (hc : CallR X (.builtin id) r) (hg : Gl X x) (hm : X.mg x = none) (hv : bootBuiltins x = some (.builtin id)) (ha : PA X (e :: es) t) (hn : x ≠ "__name__" := by decide) (hdb : (x == ("__debug__" : Str)) = false := by decide)
    (he : starEach (e :: es) X.env = (false, eval e X.env) :: starEach es X.env := by rfl) (hpl : (backTo pos (starEach es X.env)).any (·.1) = false := by rfl) : PE X (.Call (.Name x p) (e :: es) [] pos) (tCB r t) := by
  intro pins s σ H Q I h
  refine wpAny_Call_Name_kw (ld_blt I hg hm hv ?_ hn hdb)
  exact PyProof.Rows.callWith_builtin1 (thn (ha pos pins s σ H _ I h) fun us s1 ⟨vs, H1, I1, r1, q1⟩ => hc pins s1 σ H1 vs us Q I1 r1 q1) he hpl
theorem pe_callTy (hc : CallR X (.type T) r) (hg : Gl X x) (hm : X.mg x = none) (hv : bootBuiltins x = some (.type T)) (ha : PA X (e :: es) t) (hn : x ≠ "__name__" := by decide) (hdb : (x == ("__debug__" : Str)) = false := by decide)
    (he : starEach (e :: es) X.env = (false, eval e X.env) :: starEach es X.env := by rfl) (hpl : (backTo pos (starEach es X.env)).any (·.1) = false := by rfl) : PE X (.Call (.Name x p) (e :: es) [] pos) (tCB r t) := by
  intro pins s σ H Q I h
  refine wpAny_Call_Name_kw (ld_blt I hg hm hv ?_ hn hdb)
  exact PyProof.Rows.callWith_type1 (thn (ha pos pins s σ H _ I h) fun us s1 ⟨vs, H1, I1, r1, q1⟩ => hc pins s1 σ H1 vs us Q I1 r1 q1) he hpl
end
end L2

namespace L2
open PySem PySem.Spec PyProof.Rows

section
variable {κ : Type} [DecidableEq κ]
noncomputable def valV (kvs : List (κ × V)) (k : κ) : Option V := (kvs.find? fun kv => decide (kv.1 = k)).map (·.2)
noncomputable def putK (kvs : List (κ × V)) (k : κ) (v : V) : List (κ × V) :=
  if (kvs.any fun kv => decide (kv.1 = k)) = true then kvs.map (fun kv => if kv.1 = k then (kv.1, v) else kv) else kvs ++ [(k, v)]

theorem valV_pos {p : κ × V} {r : List (κ × V)} {k : κ} (e : p.1 = k) : valV (p :: r) k = some p.2 := by simp [valV, List.find?_cons, e]
theorem valV_neg {p : κ × V} {r : List (κ × V)} {k : κ} (e : ¬ p.1 = k) : valV (p :: r) k = valV r k := by simp [valV, List.find?_cons, e]
theorem valV_any (k : κ) : ∀ kvs : List (κ × V), (kvs.any fun kv => decide (kv.1 = k)) = (valV kvs k).isSome
  | [] => rfl
  | p :: r => by
    rw [List.any_cons]
    by_cases e : p.1 = k
    · simp only [valV_pos e, decide_eq_true e, Bool.true_or, Option.isSome_some]
    · rw [valV_neg e, decide_eq_false e, Bool.false_or]; exact valV_any k r
theorem valV_map (k j : κ) (y : V) : ∀ kvs : List (κ × V), valV (kvs.map fun kv => if kv.1 = k then (kv.1, y) else kv) j = (valV kvs j).map fun x => if j = k then y else x
  | [] => rfl
  | p :: r => by
    have ih := valV_map k j y r
    rw [List.map_cons]
    by_cases h : p.1 = k
    · rw [if_pos h]
      by_cases e : p.1 = j
      · rw [valV_pos (p := (p.1, y)) e, valV_pos e, Option.map_some, if_pos (e.symm.trans h)]
      · rw [valV_neg (p := (p.1, y)) e, valV_neg e, ih]
    · rw [if_neg h]
      by_cases e : p.1 = j
      · rw [valV_pos (p := p) e, valV_pos e, Option.map_some, if_neg (fun z => h (e.trans z))]
      · rw [valV_neg (p := p) e, valV_neg e, ih]
theorem valV_snoc (k j : κ) (y : V) : ∀ kvs : List (κ × V), valV kvs k = none → valV (kvs ++ [(k, y)]) j = if j = k then some y else valV kvs j
  | [], _ => by
    by_cases e : k = j
    · rw [if_pos e.symm]; exact valV_pos (p := (k, y)) e
    · rw [if_neg (fun z => e z.symm)]; exact valV_neg (p := (k, y)) e
  | p :: r, hn => by
    rw [List.cons_append]
    have hk : ¬ p.1 = k := fun z => by rw [valV_pos z] at hn; cases hn
    rw [valV_neg hk] at hn
    have ih := valV_snoc k j y r hn
    by_cases e : p.1 = j
    · rw [valV_pos e, valV_pos e, if_neg (fun z => hk (e.trans z))]
    · rw [valV_neg e, valV_neg e, ih]
theorem valV_put (kvs : List (κ × V)) (k j : κ) (y : V) : valV (putK kvs k y) j = if j = k then some y else valV kvs j := by
  unfold putK
  by_cases a : (kvs.any fun kv => decide (kv.1 = k)) = true
  · rw [if_pos a, valV_map]
    rw [valV_any] at a
    by_cases e : j = k
    · obtain ⟨x, hx⟩ := Option.isSome_iff_exists.mp a
      rw [if_pos e, e, hx, Option.map_some, if_pos rfl]
    · rw [if_neg e]
      cases valV kvs j with
      | none => rfl
      | some x => rw [Option.map_some, if_neg e]
  · rw [if_neg a]
    refine valV_snoc k j y kvs ?_
    rw [valV_any] at a
    cases q : valV kvs k with
    | none => rfl
    | some x => rw [q] at a; exact (a rfl).elim
theorem length_putK (kvs : List (κ × V)) (k : κ) (v : V) : (putK kvs k v).length ≤ kvs.length + 1 := by
  unfold putK
  split
  · rw [List.length_map]; (first | lia | omega)
  · rw [List.length_append, List.length_cons, List.length_nil]; (first | lia | omega)

theorem RelO.isSome_eq {o : Option V} {u : Option Value} (r : RelO o u) : o.isSome = u.isSome := by
  cases o with
  | none => cases u with
    | none => rfl
    | some _ => exact (show False from r).elim
  | some _ => cases u with
    | none => exact (show False from r).elim
    | some _ => rfl

theorem KV.val {kvs : List (κ × V)} {vs : List (κ × Value)} (r : KV kvs vs) (k : κ) : RelO (valV kvs k) (valueAt vs k) := by
  unfold KV at r
  induction r with
  | nil => exact True.intro
  | @cons p q ps qs h t ih =>
    obtain ⟨h1, h2⟩ := h
    by_cases e : p.1 = k
    · have e' : q.1 = k := h1.symm.trans e
      have b : valueAt (q :: qs) k = some q.2 := by simp [valueAt, List.find?_cons, e']
      rw [valV_pos e, b]; exact h2
    · have e' : ¬ q.1 = k := fun z => e (h1.trans z)
      have b : valueAt (q :: qs) k = valueAt qs k := by simp [valueAt, List.find?_cons, e']
      rw [valV_neg e, b]; exact ih
theorem KV.any {kvs : List (κ × V)} {vs : List (κ × Value)} (r : KV kvs vs) (k : κ) : (kvs.any fun kv => decide (kv.1 = k)) = vs.any fun kv => decide (kv.1 = k) := by
  unfold KV at r
  induction r with
  | nil => rfl
  | cons h t ih => rw [List.any_cons, List.any_cons, ih, h.1]
theorem KV.repl {kvs : List (κ × V)} {vs : List (κ × Value)} (r : KV kvs vs) (k : κ) {y : V} {u : Value} (ry : RelV y u) :
    KV (kvs.map fun kv => if kv.1 = k then (kv.1, y) else kv) (vs.map fun kv => if kv.1 = k then (kv.1, u) else kv) := by
  unfold KV at r ⊢
  induction r with
  | nil => exact .nil
  | @cons p q ps qs h t ih =>
    rw [List.map_cons, List.map_cons]
    refine .cons ?_ ih
    obtain ⟨h1, h2⟩ := h
    by_cases e : p.1 = k
    · rw [if_pos e, if_pos (h1.symm.trans e)]; exact ⟨h1, ry⟩
    · rw [if_neg e, if_neg (fun z => e (h1.trans z))]; exact ⟨h1, h2⟩
theorem KV.put {kvs : List (κ × V)} {vs : List (κ × Value)} (r : KV kvs vs) (k : κ) {y : V} {u : Value} (ry : RelV y u) : KV (putK kvs k y) (stored vs k u) := by
  unfold putK stored
  rw [r.any k]
  by_cases e : (vs.any fun kv => decide (kv.1 = k)) = true
  · rw [if_pos e, if_pos e]; exact r.repl k ry
  · rw [if_neg e, if_neg e]; exact Paired.snoc r ⟨rfl, ry⟩
theorem KV.length {kvs : List (κ × V)} {vs : List (κ × Value)} (r : KV kvs vs) : kvs.length = vs.length := Paired.length r
end


theorem kV_is {P : Program} {w : World} {k : Key} {u : Value} (r : RelV (kV k) u) : (mixKind P w).is k u = true := by
  cases k with
  | inl i => obtain ⟨t, e⟩ := (show ∃ t, u = Value.int i t from r); subst e; exact mixKind_int P w i t
  | inr x => obtain ⟨t, e⟩ := (show ∃ t, u = Value.str x t from r); subst e; exact mixKind_str P w x t
theorem items_are {P : Program} {w : World} : ∀ {ks : List Key} {us : List Value}, Vals (ks.map kV) us → ItemsAre (mixKind P w) ks us
  | [], _, r => by rw [List.map_nil] at r; cases r; exact .nil
  | k :: ks, _, r => by
    rw [List.map_cons] at r
    cases r with
    | cons h t => exact .cons (kV_is h) (items_are t)

noncomputable abbrev KT (H : Hp) : List (List Key × V) → List (List Key × Addr × Value) → Prop := Paired fun p q => p.1 = q.1 ∧ H q.2.1 = some (.tup (p.1.map kV)) ∧ RelV p.2 q.2.2
theorem KT.val {H : Hp} {kvs : List (List Key × V)} {xs : List (List Key × Addr × Value)} (r : KT H kvs xs) (k : List Key) : RelO (valV kvs k) ((atKey xs k).map (·.2)) := by
  induction r with
  | nil => exact True.intro
  | @cons p q ps qs h t ih =>
    obtain ⟨h1, _, h2⟩ := h
    by_cases e : p.1 = k
    · have e' : q.1 = k := h1.symm.trans e
      have b : atKey (q :: qs) k = some q.2 := by simp [atKey, List.find?_cons, e']
      rw [valV_pos e, b]; exact h2
    · have e' : ¬ q.1 = k := fun z => e (h1.trans z)
      have b : atKey (q :: qs) k = atKey qs k := by simp [atKey, List.find?_cons, e']
      rw [valV_neg e, b]; exact ih
theorem KT.repl {H : Hp} {kvs : List (List Key × V)} {xs : List (List Key × Addr × Value)} (r : KT H kvs xs) (k : List Key) {y : V} {u : Value} (ry : RelV y u) :
    KT H (kvs.map fun kv => if kv.1 = k then (kv.1, y) else kv) (xs.map (putAt k u)) := by
  induction r with
  | nil => exact .nil
  | @cons p q ps qs h t ih =>
    rw [List.map_cons, List.map_cons]
    refine .cons ?_ ih
    obtain ⟨h1, h2, h3⟩ := h
    unfold putAt
    by_cases e : p.1 = k
    · rw [if_pos e, if_pos (h1.symm.trans e)]; exact ⟨h1, h2, ry⟩
    · rw [if_neg e, if_neg (fun z => e (h1.trans z))]; exact ⟨h1, h2, h3⟩
theorem KT.put {H : Hp} {kvs : List (List Key × V)} {xs : List (List Key × Addr × Value)} (r : KT H kvs xs) (k : List Key) {b : Addr} {y : V} {u : Value} (hb : H b = some (.tup (k.map kV))) (ry : RelV y u) :
    KT H (putK kvs k y) (storedH xs k b u) := by
  have e : (kvs.any fun kv => decide (kv.1 = k)) = (atKey xs k).isSome := by
    rw [valV_any, (r.val k).isSome_eq, Option.isSome_map]
  unfold putK storedH
  rw [e]
  by_cases q : (atKey xs k).isSome = true
  · rw [if_pos q, if_pos q]; exact r.repl k ry
  · rw [if_neg q, if_neg q]; exact Paired.snoc r ⟨rfl, hb, ry⟩
theorem KT.keeps {H H' : Hp} {kvs : List (List Key × V)} {xs : List (List Key × Addr × Value)} (r : KT H kvs xs) (ht : ∀ b ys, H b = some (.tup ys) → H' b = some (.tup ys)) : KT H' kvs xs :=
  Paired.mapP r fun _ _ z => ⟨z.1, ht _ _ z.2.1, z.2.2⟩

section
variable {P : Program} {w : World} {H : Hp} {h : Heap} {a : Addr}
theorem rd_of {u : HO} (ok : HOk P w H h) (e : Rd H a u) : ObjOk P w H h a u := e.ok ok
theorem dk_rd {kvs : List (Key × V)} (ok : HOk P w H h) (e : Rd H a (.dK kvs)) : kvs.length ≤ sizeLine ∧ (a == sysModules) = false ∧ ∃ vs, KV kvs vs ∧ h.DictOf (mixKind P w) a vs :=
  show ObjOk P w H h a (.dK kvs) from rd_of ok e
theorem dk_of {kvs : List (Key × V)} (ok : HOk P w H h) (e : H a = some (.dK kvs)) : kvs.length ≤ sizeLine ∧ (a == sysModules) = false ∧ ∃ vs, KV kvs vs ∧ h.DictOf (mixKind P w) a vs := dk_rd ok (.inl e)
theorem key_of {ks : List Key} (ok : HOk P w H h) (e : H a = some (.tup (ks.map kV))) : (tupleKind (mixKind P w)).is h ks a := by
  obtain ⟨_, its, r, o, h1, h2, n, h3⟩ := (show ObjOk P w H h a (.tup (ks.map kV)) from ok a _ e)
  exact ⟨o, its.toArray, n, h1, h2, h3, by simpa using items_are r⟩
theorem dt_rd {kvs : List (List Key × V)} (ok : HOk P w H h) (e : Rd H a (.dT kvs)) : kvs.length ≤ sizeLine ∧ (a == sysModules) = false ∧
    ∃ xs, KT H kvs xs ∧ h.DictOfH (tupleKind (mixKind P w)) a xs := by
  obtain ⟨z, y, xs, r, o, es, ep, h1, h2, h3, h4, h5⟩ := (show ObjOk P w H h a (.dT kvs) from rd_of ok e)
  refine ⟨z, y, xs, r, o, es, ep, h1, h2, h3, h4, fun x hx => ?_, h5⟩
  have all : ∀ {l : List (List Key × V)} {m : List (List Key × Addr × Value)}, KT H l m → ∀ x ∈ m, (tupleKind (mixKind P w)).is h x.1 x.2.1 := by
    intro l m q
    induction q with
    | nil => intro x hx; exact nomatch hx
    | @cons p q ps qs hq t ih =>
      intro x hx
      rcases List.mem_cons.mp hx with e | hx
      · subst e
        exact key_of ok (by rw [← hq.1]; exact hq.2.1)
      · exact ih x hx
  exact all r x hx
theorem dt_of {kvs : List (List Key × V)} (ok : HOk P w H h) (e : H a = some (.dT kvs)) : kvs.length ≤ sizeLine ∧ (a == sysModules) = false ∧
    ∃ xs, KT H kvs xs ∧ h.DictOfH (tupleKind (mixKind P w)) a xs := dt_rd ok (.inl e)
end

noncomputable def DGet (H : Hp) (a : Addr) (y : V) (r : Option V) : Prop :=
  (∃ kvs k, Rd H a (.dK kvs) ∧ y = kV k ∧ r = valV kvs k) ∨ ∃ kvs k b, Rd H a (.dT kvs) ∧ y = .ref b ∧ H b = some (.tup (k.map kV)) ∧ r = valV kvs k
noncomputable def DPut (H : Hp) (a : Addr) (y v : V) (H' : Hp) : Prop :=
  (∃ kvs k, H a = some (.dK kvs) ∧ y = kV k ∧ kvs.length < sizeLine ∧ H' = upd H a (.dK (putK kvs k v))) ∨
  ∃ kvs k b, H a = some (.dT kvs) ∧ y = .ref b ∧ H b = some (.tup (k.map kV)) ∧ kvs.length < sizeLine ∧ H' = upd H a (.dT (putK kvs k v))
theorem DGet.k {H : Hp} {a : Addr} {kvs : List (Key × V)} {k : Key} (e : H a = some (.dK kvs)) : DGet H a (kV k) (valV kvs k) := .inl ⟨kvs, k, .inl e, rfl, rfl⟩
theorem DPut.k {H : Hp} {a : Addr} {kvs : List (Key × V)} {k : Key} {v : V} (e : H a = some (.dK kvs)) (hl : kvs.length < sizeLine) : DPut H a (kV k) v (upd H a (.dK (putK kvs k v))) := .inl ⟨kvs, k, e, rfl, hl, rfl⟩


section
variable {X : Cx} {pins : List (Addr × Obj)} {σ : St} {H : Hp} {s : Shared} {a : Addr} {y v : V} {u r : Value} {o : Option V} {A : Around} {E : Value → Shared → Prop}

theorem Inv.big (I : Inv X pins σ H s) : sysModules < s.heap.objs.size := by
  have h : mainGlobals < s.heap.objs.size := (I.mod.glob.keeps I.bk).lt
  exact Nat.lt_trans (by decide) h

theorem d_getItem {Q : Value → Shared → Prop} (hu : A.units + 1 < cLine) (I : Inv X pins σ H s) (g : DGet H a y (some v)) (ry : RelV y u) (h : ∀ w' s', Inv X pins σ H s' → RelV v w' → Q w' s') :
    wpAny (model X.prog X.w) A (getItem (.ref a) u) Q E s := by
  rcases g with ⟨kvs, k, e, ey, l⟩ | ⟨kvs, k, b, e, ey, eb, l⟩
  · subst ey
    obtain ⟨z, hd, vs, rel, dd⟩ := dk_rd I.hok e
    obtain ⟨w', hw, rw'⟩ := RelO.some_of (v := v) (o := valueAt vs k) (by rw [l]; exact rel.val k)
    exact wpAny_getItem_of (kV_is ry) dd.mapOf hw (h w' _ (I.tok _) rw')
  · subst ey
    cases (show u = Value.ref b from ry)
    obtain ⟨z, hd, xs, rel, dd⟩ := dt_rd I.hok e
    obtain ⟨w', hw, rw'⟩ := RelO.some_of (v := v) (o := (atKey xs k).map (·.2)) (by rw [l]; exact rel.val k)
    obtain ⟨p, hp, hp2⟩ := Option.map_eq_some_iff.mp hw
    refine wpAny_getItem_heap (tupleKind_room_in1 hu) (key_of I.hok eb) dd hp ?_
    rw [hp2]
    exact h w' _ (I.tok _) rw'
theorem d_notIn {Q : Value → Shared → Prop} (hu : A.units + 1 < cLine) (I : Inv X pins σ H s) (g : DGet H a y o) (ry : RelV y u) (h : ∀ s', Inv X pins σ H s' → Q (.bool (!o.isSome)) s') :
    wpAny (model X.prog X.w) A (compareOp .NotIn u (.ref a)) Q E s := by
  rcases g with ⟨kvs, k, e, ey, l⟩ | ⟨kvs, k, b, e, ey, eb, l⟩
  · subst ey
    obtain ⟨z, hd, vs, rel, dd⟩ := dk_rd I.hok e
    refine wpAny_notIn_of (kV_is ry) hd dd.mapOf ?_
    rw [← (rel.val k).isSome_eq, ← l]
    exact h _ (I.tok _)
  · subst ey
    cases (show u = Value.ref b from ry)
    obtain ⟨z, hd, xs, rel, dd⟩ := dt_rd I.hok e
    refine wpAny_notIn_heap (tupleKind_room_in1 hu) (key_of I.hok eb) hd dd ?_
    have q := (rel.val k).isSome_eq
    rw [Option.isSome_map] at q
    rw [← q, ← l]
    exact h _ (I.tok _)
theorem d_write {h' : Heap} {t' : Nat} {ob : HO} (I : Inv X pins σ H s) (mu : Mut (H a)) (hs : Heap.SameBut a s.heap h') (he : ∃ q, h'.get? a = some q) (new : ObjOk X.prog X.w (upd H a ob) h' a ob) :
    Inv X pins σ (upd H a ob) { s with heap := h', toks := t' } :=
  I.write (x := a) (e := a) mu (.inl rfl) (fun b q hb z => (hs.2 b hb).trans z) he new
theorem dk_new {P : Program} {w : World} {H' : Hp} {h' : Heap} {kvs : List (Key × V)} {vs : List (Key × Value)} (z : kvs.length ≤ sizeLine) (hd : (a == sysModules) = false) (rel : KV kvs vs) (dd : h'.DictOf (mixKind P w) a vs) :
    ObjOk P w H' h' a (.dK kvs) := ⟨z, hd, vs, rel, dd⟩
theorem d_setItem {H' : Hp} {Q : Unit → Shared → Prop} (hu : A.units + 1 < cLine) (I : Inv X pins σ H s) (g : DPut H a y v H') (ry : RelV y u) (rv : RelV v r) (h : ∀ s', Inv X pins σ H' s' → Q () s') :
    wpAny (model X.prog X.w) A (setItem (.ref a) u r) Q E s := by
  rcases g with ⟨kvs, k, e, ey, l, eH⟩ | ⟨kvs, k, b, e, ey, eb, l, eH⟩
  · subst ey eH
    obtain ⟨z, hd, vs, rel, dd⟩ := dk_of I.hok e
    have hz : vs.length ≤ sizeLine := by rw [← rel.length]; exact z
    have hl : (putK kvs k v).length ≤ sizeLine := by have := length_putK kvs k v; (first | lia | omega)
    refine wpAny_setItem_pairs (hsz := hz) (kV_is ry) dd fun h' dd' hs => h _ ?_
    have he : ∃ q, h'.get? a = some q := let ⟨q, _, _, hq, _⟩ := dd'; ⟨q, hq⟩
    exact d_write I (by rw [e]; exact True.intro) hs he (dk_new hl hd (rel.put k rv) dd')
  · subst ey eH
    cases (show u = Value.ref b from ry)
    obtain ⟨z, hd, xs, rel, dd⟩ := dt_of I.hok e
    have hz : xs.length ≤ sizeLine := by rw [← Paired.length rel]; exact z
    have hl : (putK kvs k v).length ≤ sizeLine := by have := length_putK kvs k v; (first | lia | omega)
    refine wpAny_setItem_heap (hsz := hz) (tupleKind_room_in1 hu) (key_of I.hok eb) dd fun h' dd' hs => h _ ?_
    obtain ⟨q, es, ep, hq, h2, h3, h4, _, h5⟩ := dd'
    refine d_write I (by rw [e]; exact True.intro) hs ⟨q, hq⟩ ⟨hl, hd, _, (rel.put k eb rv).keeps fun c ys ec => ?_, q, es, ep, hq, h2, h3, h4, h5⟩
    rw [upd_ne (ne_of ec e (fun z => nomatch z))]
    exact ec
end

section
variable {X : Cx} {pins : List (Addr × Obj)} {σ : St} {H : Hp} {s : Shared} {a : Addr} {kvs : List (Key × V)} {k : Key} {u : Value} {A : Around} {E : Value → Shared → Prop}
end


noncomputable def NoSl (i : Expr) : Prop := ∀ ov iv, subscripted i false ov iv = operate [ov, iv] (getItem ov iv)
theorem subD_of {prog : Program} {w : World} {A : Around} {E : Value → Shared → Prop} {s : Shared} {env : Env} {value slice : Expr} {pos : Pos} {T id : String} {Q : Value → Shared → Prop}
    (hl : typeLookup (.type T) "__getitem__" = pure (some (.builtin id))) (hs : NoSl slice)
    (h : wpAny (model prog w) A (eval value env) (fun o s₁ => wpAny (model prog w) A (eval slice env) (fun i s₂ => s₂.TypeIs o T ∧ wpAny (model prog w) A (getItem o i) Q E s₂) E s₁) E s) :
    wpAny (model prog w) A (eval (.Subscript value slice pos) env) Q E s := by
  refine Subscript_ (wpAny_mono h (fun o s₁ h₁ => wpAny_mono h₁ (fun i s₂ h₂ => ?_) fun _ _ x => x) fun _ _ x => x)
  obtain ⟨hT, h₂⟩ := h₂
  unfold subscriptTail
  refine wpAny_bind ?_
  rw [getitemInPython_of_ne hT.not_modules]
  refine wpAny_bind (wpAny_specialOf hT hl ?_)
  have fin : wpAny (model prog w) A (subscripted slice false o i) (fun r s₃ => wpAny (model prog w) A (letTemporaryGo value o r >>= fun _ => pure r) Q E s₃) E s₂ := by
    rw [hs o i]
    exact wpAny_operating (wpAny_mono h₂ (fun r s₃ h₃ => wpAny_bind (wpAny_letTemporaryGo (wpAny_pure h₃))) fun _ _ x => x)
  first
    | exact wpAny_pure (wpAny_bind fin)
    | exact wpAny_bind (wpAny_pure (wpAny_bind fin))
    | exact wpAny_bind fin

theorem dict_typeIs {X : Cx} {pins : List (Addr × Obj)} {σ : St} {H : Hp} {s : Shared} {a : Addr} {y : V} {o : Option V} (I : Inv X pins σ H s) (g : DGet H a y o) : s.TypeIs (.ref a) "dict" := by
  rcases g with ⟨kvs, k, e, _, _⟩ | ⟨kvs, k, b, e, _, _, _⟩
  · obtain ⟨_, _, vs, _, dd⟩ := dk_rd I.hok e
    exact dd.typeIs
  · obtain ⟨_, _, xs, _, dd⟩ := dt_rd I.hok e
    exact dd.typeIs

inductive PtDGet (x y : V) (H : Hp) (Q : VK) : Prop
  | mk (a : Addr) (v : V) (h0 : x = .ref a) (h1 : DGet H a y (some v)) (h2 : Q v H) : PtDGet x y H Q
noncomputable def tDGet (td ty : TE) : TE := fun σ H Q => td σ H fun x H1 => ty σ H1 fun y H2 => PtDGet x y H2 Q
noncomputable def tDNotIn (ty td : TE) : TE := fun σ H Q => ty σ H fun y H1 => td σ H1 fun x H2 => ∃ a o, x = .ref a ∧ DGet H2 a y o ∧ Q (.bl (!o.isSome)) H2
noncomputable def sDPut (td ty tv : TE) : TS := fun D σ H => tv σ H fun v H1 => td σ H1 fun x H2 => ty σ H2 fun y H3 => ∃ a H4, x = .ref a ∧ DPut H3 a y v H4 ∧ D.nx σ H4

section
variable {X : Cx} {o i e value : Expr} {pos pos' tpos : Pos} {td ty tv : TE}
theorem pe_dget (hu : X.A.units + 1 < cLine) (ho : PE X o td) (hi : PE X i ty) (hs : NoSl i) : PE X (.Subscript o i pos) (tDGet td ty) := by
  intro pins s σ H Q I h
  refine subD_of PySem.F.slot_dict_getitem.lookup hs (thn (ho pins s σ H _ I h) fun u s1 ⟨x, H1, I1, rx, q1⟩ => thn (hi pins s1 σ H1 _ I1 q1) fun iv s2 ⟨y, H2, I2, ry, a, v, ex, g, q2⟩ => ?_)
  subst ex
  obtain rfl : u = Value.ref a := rx
  exact ⟨dict_typeIs I2 g, d_getItem hu I2 g ry fun w' s3 I3 rw' => ⟨v, H2, I3, rw', q2⟩⟩
theorem pc_dnotin (hu : X.A.units + 1 < cLine) (hi : PE X i ty) (ho : PE X o td) : PC X .NotIn i o (tDNotIn ty td) := by
  intro pins s σ H Q I h
  refine thn (hi pins s σ H _ I h) fun iv s1 ⟨y, H1, I1, ry, q1⟩ => thn (ho pins s1 σ H1 _ I1 q1) fun u s2 ⟨x, H2, I2, rx, a, ov, ex, g, q2⟩ => ?_
  subst ex
  obtain rfl : u = Value.ref a := rx
  exact d_notIn hu I2 g ry fun s3 I3 => ⟨.bl (!ov.isSome), H2, I3, rfl, q2⟩
theorem ps_dput (hu : X.A.units + 1 < cLine) (ho : PE X o td) (hi : PE X i ty) (hv : PE X value tv) (hs : swapsWith value (some (.Subscript o i pos')) pos.line X.env = pure false) :
    PS X (.Assign [.Subscript o i pos'] value pos) (sDPut td ty tv) := by
  intro pins s σ H D I h
  refine wpAny_Assign_Subscript (thn (hv pins s σ H _ I h) fun r s1 ⟨v, H1, I1, rv, q1⟩ => thn (ho pins s1 σ H1 _ I1 q1) fun u s2 ⟨x, H2, I2, rx, q2⟩ => thn (hi pins s2 σ H2 _ I2 q2) fun iv s3 ⟨y, H3, I3, ry, a, H4, ex, g, q3⟩ => ?_) hs
  subst ex
  obtain rfl : u = Value.ref a := rx
  exact d_setItem hu I3 g ry rv fun s4 I4 => ⟨σ, H4, I4, q3⟩
end


theorem dk_empty {P : Program} {w : World} {H : Hp} (h : Heap) (hb : sysModules < h.objs.size) : ObjOk P w H (h.push { cls := .type "dict", data := .dict #[] }) h.objs.size (.dK []) :=
  ⟨Nat.zero_le _, beq_eq_false_iff_ne.mpr (Ne.symm (Nat.ne_of_lt hb)), [], .nil, Heap.DictOf.new h⟩
noncomputable def tDNewK : TE := fun _ H Q => ∀ p, H p = none → Q (.ref p) (upd H p (.dK []))
section
variable {X : Cx} {pos : Pos}
theorem pe_dnewK : PE X (.Dict [] [] pos) tDNewK := fun pins s σ H Q I h =>
  wpAny_Dict_empty ⟨.ref s.heap.objs.size, _, I.laid (a := s.heap.objs.size) (o := .dK []) (t' := s.toks) (fun _ _ q => Heap.get?_push_of_some _ q) (Nat.le_refl _) (dk_empty s.heap I.big), rfl, h _ (I.hok.fresh (Nat.le_refl _))⟩
end






section
variable {X : Cx} {pins : List (Addr × Obj)} {σ : St} {H : Hp} {s : Shared} {a : Addr} {y d : V} {u r : Value} {o : Option V} {A : Around} {E : Value → Shared → Prop}
end

section
variable {X : Cx} {o e f : Expr} {apos cpos : Pos} {td ty tx : TE}
end

section
variable {X : Cx} {pins : List (Addr × Obj)} {σ : St} {H : Hp} {s : Shared} {a : Addr} {kvs : List (Key × V)} {A : Around} {E : Value → Shared → Prop}
theorem d_copyOf {Q : Value → Shared → Prop} (I : Inv X pins σ H s) (e : Rd H a (.dK kvs)) (h : ∀ p s', H p = none → Inv X pins σ (upd H p (.dK kvs)) s' → Q (.ref p) s') : wpAny (model X.prog X.w) A (call (.type "dict") [.ref a]) Q E s := by
  obtain ⟨z, hd, vs, rel, dd⟩ := dk_rd I.hok e
  refine kt_call_dict hd dd (by rw [← rel.length]; exact z) fun h' dd' hs => ?_
  refine h _ _ (I.hok.fresh (Nat.le_refl _)) (I.laid (a := s.heap.objs.size) (o := .dK kvs) (t' := s.toks) (fun b q hq => ?_) (Nat.le_refl _) (dk_new z (beq_eq_false_iff_ne.mpr (Ne.symm (Nat.ne_of_lt I.big))) rel dd'))
  exact (hs.2 b (Nat.ne_of_lt (Heap.lt_size hq))).trans (Heap.get?_push_of_some _ hq)
end


section
variable {X : Cx} {pins : List (Addr × Obj)} {σ : St} {H : Hp} {s : Shared} {a : Addr} {y : V} {u : Value} {A : Around} {E : Value → Shared → Prop}
end
end L2


namespace HT
open PySem PyProof.Rows



section
open PySem.SeqAt
open PySem.AutoSeq1 (wpAny_loadPart')
open PySem.MeetsSeq PySem.MeetsSeq2 PySem.MeetsSeq3

end

section
variable {prog : Program} {w : World} {A : Around} {E : Value → Shared → Prop} {s : Shared}



noncomputable def sIx (n d : Nat) : Option Int → Nat
  | none => d
  | some v => if v < 0 then (v + (n : Int)).toNat else min v.toNat n
theorem sIx_none (n d : Nat) : sIx n d none = d := rfl
theorem sIx_nat (n d k : Nat) : sIx n d (some (k : Int)) = min k n := by
  show (if (k : Int) < 0 then ((k : Int) + (n : Int)).toNat else min (k : Int).toNat n) = min k n
  rw [if_neg (by (first | lia | omega)), Int.toNat_natCast]

end
end HT

namespace L2
open PySem PySem.Spec PyProof.Rows

noncomputable abbrev TO := St → Hp → (Option Int → Hp → Prop) → Prop
noncomputable def PO (X : Cx) (e : Option Expr) (t : TO) : Prop :=
  ∀ (pins : List (Addr × Obj)) (s : Shared) (σ : St) (H : Hp) (Q : Option Int → Hp → Prop), Inv X pins σ H s → t σ H Q →
    wpAny (model X.prog X.w) X.A (evalPart e X.env) (fun u s' => ∃ o H', Inv X pins σ H' s' ∧ IsPart u o ∧ Q o H') X.xe s
noncomputable def tNoPart : TO := fun _ H Q => Q none H
inductive PtPart (x : V) (H : Hp) (Q : Option Int → Hp → Prop) : Prop
  | mk (i : Int) (h0 : x = .int i) (h1 : Q (some i) H) : PtPart x H Q
noncomputable def tPart (t : TE) : TO := fun σ H Q => t σ H fun x H1 => PtPart x H1 Q


section
variable {X : Cx} {e : Expr} {te : TE} {lo hi : Option Expr} {tl th : TO} {pos p2 : Pos}

theorem po_none : PO X none tNoPart := by
  intro pins s σ H Q I h
  rw [evalPart_none]
  exact wpAny_pure ⟨none, H, I, .none, h⟩
theorem po_some (h : PE X e te) : PO X (some e) (tPart te) := by
  intro pins s σ H Q I hw
  rw [evalPart_some]
  refine thn (h pins s σ H _ I hw) fun u s1 ⟨x, H1, I1, r1, q1⟩ => ?_
  obtain ⟨i, rfl, q⟩ := q1
  obtain ⟨t, rfl⟩ := r1
  exact ⟨some i, H1, I1, .int i t, q⟩

noncomputable def SlR (X : Cx) (r : V → Option Int → Option Int → Hp → VK → Prop) : Prop :=
  ∀ (pins : List (Addr × Obj)) (s : Shared) (σ : St) (H : Hp) (x : V) (v vl vu : Value) (lo hi : Option Int) (sl : Addr) (Q : VK), Inv X pins σ H s → RelV x v → s.heap.IsSliceOf sl vl vu .none → IsPart vl lo → IsPart vu hi → r x lo hi H Q →
    ∃ T id, typeLookup (.type T) "__getitem__" = pure (some (.builtin id)) ∧ s.TypeIs v T ∧ wpAny (model X.prog X.w) X.A (getItem v (.ref sl)) (EP X pins σ Q) X.xe s
noncomputable def tSl (r : V → Option Int → Option Int → Hp → VK → Prop) (te : TE) (tl th : TO) : TE := fun σ H Q => te σ H fun x H1 => tl σ H1 fun l H2 => th σ H2 fun u H3 => r x l u H3 Q
theorem pe_slice {r : V → Option Int → Option Int → Hp → VK → Prop} (hr : SlR X r) (he : PE X e te) (hl : PO X lo tl) (hu : PO X hi th) : PE X (.Subscript e (.Slice lo hi none p2) pos) (tSl r te tl th) := by
  intro pins s σ H Q I h
  refine Subscript_ (thn (he pins s σ H _ I h) fun v s1 ⟨x, H1, I1, r1, q1⟩ => ?_)
  refine wpAny_Slice (thn (hl pins s1 σ H1 _ I1 q1) fun vl s2 ⟨l, H2, I2, pl, q2⟩ => thn (hu pins s2 σ H2 _ I2 q2) fun vu s3 ⟨u, H3, I3, pu, q3⟩ => ?_)
  rw [evalPart_none]
  refine wpAny_pure ?_
  have I4 : Inv X pins σ H3 { s3 with heap := s3.heap.push { cls := .type "slice", data := .fields #[vl, vu, .none] } } := I3.kept (t' := s3.toks) fun b ob q => Heap.get?_push_of_some _ q
  obtain ⟨T, id, hT, ht, hg⟩ := hr pins { s3 with heap := s3.heap.push { cls := .type "slice", data := .fields #[vl, vu, .none] } } σ H3 x v vl vu l u s3.heap.objs.size Q I4 r1 (Heap.IsSliceOf.new ..) pl pu q3
  show wpAny (model X.prog X.w) X.A (subscriptTail e (.Slice lo hi none p2) v (.ref s3.heap.objs.size)) (EP X pins σ Q) X.xe { s3 with heap := s3.heap.push { cls := .type "slice", data := .fields #[vl, vu, .none] } }
  exact tail_any (ops := [.ref s3.heap.objs.size, v]) ht hT hg (by with_unfolding_all rfl)

noncomputable def cutV (xs : List V) (lo hi : Option Int) : List V := (xs.drop (HT.sIx xs.length 0 lo)).take (HT.sIx xs.length xs.length hi - HT.sIx xs.length 0 lo)
theorem cutV_length (xs : List V) (lo hi : Option Int) : (cutV xs lo hi).length ≤ xs.length := by
  unfold cutV
  rw [List.length_take, List.length_drop]
  (first | lia | omega)

end
end L2

namespace L2
open PySem PySem.Spec PyProof.Rows

noncomputable def ixN (n : Nat) (i : Int) : Option Nat := if 0 ≤ i then (if i < n then some i.toNat else none) else if -(n : Int) ≤ i then some (i + n).toNat else none
noncomputable def atI {α : Type} (xs : List α) (i : Int) : Option α := (ixN xs.length i).bind fun j => xs[j]?
theorem ixN_seq {n : Nat} {i : Int} {j : Nat} (h : ixN n i = some j) : seqIndex? i n = some j ∧ j < n ∧ -(n : Int) ≤ i ∧ i < n := by
  unfold ixN at h
  by_cases h0 : 0 ≤ i
  · rw [if_pos h0] at h
    by_cases h1 : i < n
    · rw [if_pos h1] at h
      have e : i.toNat = j := Option.some.inj h
      exact ⟨by rw [seqIndex_of h0 h1, e], by (first | lia | omega), by (first | lia | omega), h1⟩
    · rw [if_neg h1] at h; cases h
  · rw [if_neg h0] at h
    by_cases h1 : -(n : Int) ≤ i
    · rw [if_pos h1] at h
      have e : (i + n).toNat = j := Option.some.inj h
      exact ⟨by rw [seqIndex_neg (by (first | lia | omega)) h1, e], by (first | lia | omega), h1, by (first | lia | omega)⟩
    · rw [if_neg h1] at h; cases h
theorem atI_get {α : Type} {xs : List α} {i : Int} {v : α} (h : atI xs i = some v) : ∃ j, seqIndex? i xs.length = some j ∧ xs[j]? = some v ∧ j < xs.length ∧ -(xs.length : Int) ≤ i ∧ i < xs.length := by
  unfold atI at h
  cases e : ixN xs.length i with
  | none => rw [e] at h; cases h
  | some j =>
    rw [e] at h
    obtain ⟨h1, h2, h3, h4⟩ := ixN_seq e
    exact ⟨j, h1, h, h2, h3, h4⟩
theorem atI_nat {α : Type} {xs : List α} {j : Nat} {v : α} (h : xs[j]? = some v) : atI xs (j : Int) = some v := by
  have hj : j < xs.length := (List.getElem?_eq_some_iff.mp h).1
  have e : ixN xs.length (j : Int) = some j := by
    unfold ixN
    rw [if_pos (by (first | lia | omega)), if_pos (by (first | lia | omega))]; simp
  unfold atI; rw [e]; exact h
theorem atI_last {α : Type} (xs : List α) (v : α) : atI (xs ++ [v]) (-1) = some v := by
  have hl : (xs ++ [v]).length = xs.length + 1 := by simp
  have e : ixN (xs ++ [v]).length (-1) = some xs.length := by
    unfold ixN
    rw [hl, if_neg (by decide), if_pos (by (first | lia | omega))]
    congr 1
    (first | lia | omega)
  unfold atI
  rw [e]
  show (xs ++ [v])[xs.length]? = some v
  simp

noncomputable def PlainIx (b : Expr) : Prop := ∀ o i, subscripted b false o i = operate [o, i] (getItem o i)
noncomputable def IxR (X : Cx) (r : R2) : Prop :=
  ∀ (value slice : Expr) (pins : List (Addr × Obj)) (s : Shared) (σ : St) (H : Hp) (x y : V) (v u : Value) (Q : VK), Inv X pins σ H s → RelV x v → RelV y u → r x y H Q →
    subscripted slice false v u = operate [v, u] (getItem v u) → wpAny (model X.prog X.w) X.A (subscriptTail value slice v u) (EP X pins σ Q) X.xe s
noncomputable def MtR (X : Cx) (id : String) (r : V → List V → Hp → VK → Prop) : Prop :=
  ∀ (pins : List (Addr × Obj)) (s : Shared) (σ : St) (H : Hp) (x : V) (xs : List V) (v : Value) (us : List Value) (Q : VK), Inv X pins σ H s → RelV x v → Vals xs us → r x xs H Q →
    wpAny (model X.prog X.w) X.A (call (.builtin id) (v :: us)) (EP X pins σ Q) X.xe s
section
variable {X : Cx} {a b : Expr} {ta tb : TE} {pos : Pos}
theorem pe_ix {r : R2} (hr : IxR X r) (ha : PE X a ta) (hb : PE X b tb) (hs : PlainIx b) : PE X (.Subscript a b pos) (tOp r ta tb) := by
  intro pins s σ H Q I h
  exact Subscript_ (binT ha hb I h fun v u s2 x y H2 I2 rx ry q => hr a b pins s2 σ H2 x y v u Q I2 rx ry q (hs _ _))

inductive PrIxL (K : PySem.W.Frag) (x : V) (y : V) (H : Hp) (Q : VK) : Prop
  | mk (p xs i v : _) (h0 : x = .ref p) (h1 : y = .int i) (h2 : SqL K H p xs) (h3 : atI xs i = some v) (h4 : Q v H) : PrIxL K x y H Q
noncomputable def rIxL (K : PySem.W.Frag) : R2 := fun x y H Q => PrIxL K x y H Q
inductive PrIxT (K : PySem.W.Frag) (x : V) (y : V) (H : Hp) (Q : VK) : Prop
  | mk (p xs i v : _) (h0 : x = .ref p) (h1 : y = .int i) (h2 : SqT K H p xs) (h3 : atI xs i = some v) (h4 : Q v H) : PrIxT K x y H Q
noncomputable def rIxT (K : PySem.W.Frag) : R2 := fun x y H Q => PrIxT K x y H Q
theorem ix_list : IxR X (rIxL X.K) := by
  intro value slice pins s σ H x y v u Q I rx ry h hs
  obtain ⟨p, xs, i, z, rfl, rfl, hq, he, q⟩ := h
  cases rx
  obtain ⟨t, rfl⟩ := ry
  obtain ⟨its, r, pl, hz⟩ := I.list hq
  obtain ⟨j, h1, h2, h3, h4, h5⟩ := atI_get he
  obtain ⟨w, ew, rw'⟩ := r.get h2
  have hl := r.length
  have hn := line63
  have fin : EP X pins σ Q w s := ⟨z, H, I, rw', q⟩
  by_cases h0 : 0 ≤ i
  · have hj : i.toNat = j := by
      rw [seqIndex_of h0 h5] at h1
      exact Option.some.inj h1
    exact item_listR pl.isList h0 (by (first | lia | omega)) (by rw [hj]; simpa using ew) fin hs
  · have hj : (i + (its.toArray.size : Int)).toNat = j := by
      rw [seqIndex_neg (by (first | lia | omega)) h4] at h1
      rw [List.size_toArray, ← hl]
      exact Option.some.inj h1
    exact subscriptTail_builtinR (x := w) pl.isList.typeIs slot_list_getitem.lookup
      (wpAny_getItem_list_neg (Q := fun r s' => r = w ∧ EP X pins σ Q r s') pl.isList (by (first | lia | omega)) (by rw [List.size_toArray] <;> (first | lia | omega)) (by (first | lia | omega)) (by rw [hj]; simpa using ew) ⟨rfl, fin⟩) hs
theorem ix_tup : IxR X (rIxT X.K) := by
  intro value slice pins s σ H x y v u Q I rx ry h hs
  obtain ⟨p, xs, i, z, rfl, rfl, hq, he, q⟩ := h
  cases rx
  obtain ⟨t, rfl⟩ := ry
  obtain ⟨its, r, pl, hz⟩ := I.tuple hq
  obtain ⟨j, h1, h2, h3, h4, h5⟩ := atI_get he
  obtain ⟨w, ew, rw'⟩ := r.get h2
  have hl := r.length
  have hn := line63
  have fin : EP X pins σ Q w s := ⟨z, H, I, rw', q⟩
  exact subscriptTail_builtinR (x := w) pl.typeIs slot_tuple_getitem.lookup
    (getItem_tuple (j := j) (Q := fun r s' => r = w ∧ EP X pins σ Q r s') pl (by (first | lia | omega)) (by (first | lia | omega)) (by rw [List.size_toArray, ← hl]; exact h1) (by simpa using ew) ⟨rfl, fin⟩) hs

theorem mapSeq_set (its : List Value) (n j : Nat) (u : Value) : Obj.mapSeq (·.setIfInBounds j u) { cls := .type "list", data := .seq its.toArray n } = { cls := .type "list", data := .seq (its.set j u).toArray n } := by
  simp [Obj.mapSeq]
theorem Inv.lst {pins : List (Addr × Obj)} {σ : St} {H : Hp} {s : Shared} {p : Addr} {xs : List V} (I : Inv X pins σ H s) (h : H p = some (.lst xs)) :
    ∃ (its : List Value) (n : Nat), Vals xs its ∧ s.heap.get? p = some { cls := .type "list", data := .seq its.toArray n } ∧ xs.length ≤ sizeLine := by
  obtain ⟨z, its, n, r, e⟩ := I.hok p _ h
  exact ⟨its, n, r, e, z⟩
theorem Inv.lstUpd {pins : List (Addr × Obj)} {σ : St} {H : Hp} {s : Shared} {p : Addr} {xs ys : List V} {its its' : List Value} {n n' : Nat} {f : Obj → Obj} (I : Inv X pins σ H s) (h : H p = some (.lst xs))
    (ho : s.heap.get? p = some { cls := .type "list", data := .seq its.toArray n }) (hf : f { cls := .type "list", data := .seq its.toArray n } = { cls := .type "list", data := .seq its'.toArray n' }) (r : Vals ys its') (hz : ys.length ≤ sizeLine) (t : Nat) :
    Inv X pins σ (upd H p (.lst ys)) { s with heap := s.heap.update p f, toks := t } := by
  have e : (s.heap.update p f).get? p = some { cls := .type "list", data := .seq its'.toArray n' } := by
    rw [Heap.get?_update_self f ho (by rw [hf] <;> rfl), hf]
  refine I.write (x := p) (e := p) (by rw [h]; trivial) (.inl rfl) (fun b u hb q => (Heap.get?_update_other _ _ (Ne.symm hb)).trans q) ⟨_, e⟩ ?_
  exact ⟨hz, its', n', r, e⟩
inductive PrSetL (o : V) (i : V) (v : V) (H : Hp) (Q : (Hp → Prop)) : Prop
  | mk (p xs k j : _) (h0 : o = .ref p) (h1 : i = .int k) (h2 : H p = some (.lst xs)) (h3 : ixN xs.length k = some j) (h4 : Q (upd H p (.lst (xs.set j v)))) : PrSetL  o i v H Q
noncomputable def rSetL : V → V → V → Hp → (Hp → Prop) → Prop := fun o i v H Q => PrSetL  o i v H Q
theorem set_list : PSet X rSetL := by
  intro pins s σ H o i v ov iv u Q I ro ri rv h
  obtain ⟨p, xs, k, j, rfl, rfl, hp, hj, q⟩ := h
  cases ro
  obtain ⟨t, rfl⟩ := ri
  obtain ⟨its, n, r, ho, hz⟩ := I.lst hp
  obtain ⟨h1, h2, h3, h4⟩ := ixN_seq hj
  have hl := r.length
  have hn := line63
  have I' : Inv X pins σ (upd H p (.lst (xs.set j v))) { s with heap := s.heap.update p (Obj.mapSeq (·.setIfInBounds j u)) } :=
    I.lstUpd hp ho (mapSeq_set its n j u) (r.set rv j) (by rw [List.length_set]; exact hz) s.toks
  by_cases h0 : 0 ≤ k
  · have hk : k.toNat = j := by
      rw [seqIndex_of h0 h4] at h1
      exact Option.some.inj h1
    exact PySem.W.ki_setAt ho h0 (by (first | lia | omega)) (by rw [List.size_toArray, ← hl]; exact h4) (by rw [hk]; exact ⟨_, I', q⟩)
  · have hk : (k + (its.toArray.size : Int)).toNat = j := by
      rw [seqIndex_neg (by (first | lia | omega)) h3] at h1
      rw [List.size_toArray, ← hl]
      exact Option.some.inj h1
    exact PySem.W.ki_setBack ho (by (first | lia | omega)) (by rw [List.size_toArray, ← hl]; exact h3) (by (first | lia | omega)) (by rw [hk]; exact ⟨_, I', q⟩)

theorem slice_bounds (lo hi : Option Int) (n : Nat) : (sliceBounds lo hi none n).1 = ((HT.sIx n 0 lo : Nat) : Int) ∧ (sliceBounds lo hi none n).2.1 = ((HT.sIx n n hi : Nat) : Int) ∧ (sliceBounds lo hi none n).2.2 = 1 := by
  refine ⟨?_, ?_, rfl⟩
  · cases lo with
    | none => simp [sliceBounds, HT.sIx]
    | some i =>
      simp only [sliceBounds, HT.sIx, Option.getD_none, show (1 : Int) > 0 by decide, if_true]
      by_cases h : i < 0
      · simp only [h, if_true] <;> (first | lia | omega)
      · simp only [h, if_false] <;> (first | lia | omega)
  · cases hi with
    | none => simp [sliceBounds, HT.sIx]
    | some i =>
      simp only [sliceBounds, HT.sIx, Option.getD_none, show (1 : Int) > 0 by decide, if_true]
      by_cases h : i < 0
      · simp only [h, if_true] <;> (first | lia | omega)
      · simp only [h, if_false] <;> (first | lia | omega)
theorem slicePick_cut (its : List Value) (lo hi : Option Int) : slicePick its.toArray lo hi none = ((its.drop (HT.sIx its.length 0 lo)).take (HT.sIx its.length its.length hi - HT.sIx its.length 0 lo)).toArray := by
  obtain ⟨h1, h2, h3⟩ := slice_bounds lo hi its.toArray.size
  unfold slicePick
  rw [h1, h2, h3]
  simp only [sliceRange_one, pick_run, List.size_toArray] <;> rfl
inductive PrSlL (K : PySem.W.Frag) (x : V) (lo : Option Int) (hi : Option Int) (H : Hp) (Q : VK) : Prop
  | mk (a xs : _) (h0 : x = .ref a) (h1 : SqL K H a xs) (h2 : ∀ p, H p = none → Q (.ref p) (upd H p (.lst (cutV xs lo hi)))) : PrSlL K x lo hi H Q
noncomputable def rSlL (K : PySem.W.Frag) : V → Option Int → Option Int → Hp → VK → Prop := fun x lo hi H Q => PrSlL K x lo hi H Q
theorem sl_list : SlR X (rSlL X.K) := by
  intro pins s σ H x v vl vu lo hi sl Q I rx hs pl pu h
  obtain ⟨a, xs, rfl, hx, q⟩ := h
  cases rx
  obtain ⟨its, r, ht, hz⟩ := I.list hx
  have hlen := r.length
  refine ⟨"list", _, slot_list_getitem.lookup, ht.isList.typeIs, ?_⟩
  refine wpAny_getItem_list_slice ht.isList hs pl pu .none (by simp) ?_ (by rw [List.size_toArray] <;> (first | lia | omega))
  rw [slicePick_cut, ← hlen]
  refine ⟨.ref s.heap.objs.size, _, I.laid (t' := s.toks) (o := .lst (cutV xs lo hi)) (fun b ob q => Heap.get?_push_of_some _ q) (Nat.le_refl _) ?_, rfl, q _ (I.hok.fresh (Nat.le_refl _))⟩
  exact ⟨Nat.le_trans (cutV_length xs lo hi) hz, _, 0, (r.drop (HT.sIx xs.length 0 lo)).take (HT.sIx xs.length xs.length hi - HT.sIx xs.length 0 lo), Heap.get?_push_size _ rfl⟩


inductive rLen (K : PySem.W.Frag) (xs : List V) (H : Hp) (Q : VK) : Prop
  | mk (p : Addr) (ys : List V) (h0 : xs = [.ref p]) (h1 : SqL K H p ys ∨ SqT K H p ys) (h2 : Q (.int ys.length) H) : rLen K xs H Q
theorem call_len_seq : CallR X (.builtin "len") (rLen X.K) := by
  intro pins s σ H xs us Q I r h
  obtain ⟨p, ys, rfl, hq, q⟩ := h
  obtain ⟨u, rfl, rx⟩ := vals1 r
  cases rx
  have hn := line63
  rcases hq with hq | hq
  · obtain ⟨its, r', pl, hz⟩ := I.list hq
    have hlen := r'.length
    exact Calls.call_len_list pl.isList (by simp only [List.size_toArray] <;> (first | lia | omega)) ⟨.int ys.length, H, I.tok _, ⟨s.toks + 1, by rw [List.size_toArray, hlen]⟩, q⟩
  · obtain ⟨its, r', pl, hz⟩ := I.tuple hq
    have hlen := r'.length
    exact len_tuple pl (by simp only [List.size_toArray] <;> (first | lia | omega)) ⟨.int ys.length, H, I.tok _, ⟨s.toks + 1, by rw [List.size_toArray, hlen]⟩, q⟩
theorem call_list_of : CallR X (.type "list") (fun xs H Q => ∃ p ys, xs = [.ref p] ∧ (SqL X.K H p ys ∨ SqT X.K H p ys) ∧ ∀ l, H l = none → Q (.ref l) (upd H l (.lst ys))) := by
  intro pins s σ H xs us Q I r h
  obtain ⟨p, ys, rfl, hq, q⟩ := h
  obtain ⟨u, rfl, rx⟩ := vals1 r
  cases rx
  have fin : ∀ (its : List Value), Vals ys its → ys.length ≤ sizeLine → ∀ (h' : Heap) (c' : Nat), (∀ b o', s.heap.get? b = some o' → h'.get? b = some o') →
      h'.get? s.heap.objs.size = some { cls := .type "list", dict := none, data := .seq its.toArray c', slots := #[] } → EP X pins σ Q (.ref s.heap.objs.size) { s with heap := h' } := fun its r' hz h' c' kp e =>
    ⟨.ref s.heap.objs.size, _, I.laid (t' := s.toks) kp (Nat.le_refl _) (show ObjOk X.prog X.w _ h' _ (.lst ys) from ⟨hz, its, c', r', e⟩), rfl, q _ (I.hok.fresh (Nat.le_refl _))⟩
  rcases hq with hq | hq
  · obtain ⟨its, r', pl, hz⟩ := I.list hq
    have hlen := r'.length
    obtain ⟨o, ho, hc, n, hd⟩ := pl.isList
    exact call_list_seq p (.inl rfl) ho hc hd (fun h' c' kp e => fin its r' hz h' c' kp e) (by simp only [List.size_toArray] <;> (first | lia | omega))
  · obtain ⟨its, r', pl, hz⟩ := I.tuple hq
    have hlen := r'.length
    obtain ⟨o, ho, hc, n, hd⟩ := pl
    exact call_list_seq p (.inr rfl) ho hc hd (fun h' c' kp e => fin its r' hz h' c' kp e) (by simp only [List.size_toArray] <;> (first | lia | omega))

noncomputable def tyV (K : PySem.W.Frag) (T : String) (x : V) (H : Hp) : Prop := match x with
  | .str _ => T = "str"
  | .int _ => T = "int"
  | .ref p => (T = "list" ∧ ∃ xs, SqL K H p xs) ∨ (T = "tuple" ∧ ∃ o, K.lookup p = some o ∧ o.cls = .type "tuple" ∧ o.dict = none) ∨
      (T = "dict" ∧ ((∃ kvs, H p = some (.dK kvs)) ∨ ∃ kvs, H p = some (.dT kvs))) ∨ (T = "set" ∧ ∃ S n, H p = some (.set S n))
  | _ => False
theorem tyV_is {pins : List (Addr × Obj)} {σ : St} {H : Hp} {s : Shared} {T : String} {x : V} {v : Value} (I : Inv X pins σ H s) (r : RelV x v) (ty : tyV X.K T x H) :
    s.TypeIs v T ∧ ∀ a, v = .ref a → ∃ ob, s.heap.get? a = some ob ∧ ob.dict = none := by
  cases x with
  | str z =>
    obtain ⟨t, rfl⟩ := r
    cases (show T = "str" from ty)
    exact ⟨typeIs_str s z t, fun _ e => nomatch e⟩
  | int i =>
    obtain ⟨t, rfl⟩ := r
    cases (show T = "int" from ty)
    exact ⟨typeIs_int s i t, fun _ e => nomatch e⟩
  | ref p =>
    cases r
    rcases ty with ⟨rfl, xs, hq⟩ | ⟨rfl, o, hk, hc, hd⟩ | ⟨rfl, hk⟩ | ⟨rfl, S, n, hk⟩
    · obtain ⟨its, _, pl, _⟩ := I.list hq
      refine ⟨pl.isList.typeIs, fun a e => ?_⟩
      cases e
      obtain ⟨o, n, e, c, hd, _⟩ := pl
      exact ⟨o, e, hd⟩
    · refine ⟨⟨o, I.kIn p o hk, hc⟩, fun a e => ?_⟩
      cases e
      exact ⟨o, I.kIn _ o hk, hd⟩
    · have z : ∃ o, s.heap.get? p = some o ∧ o.ExactDict := by
        rcases hk with ⟨kvs, hk⟩ | ⟨kvs, hk⟩
        · obtain ⟨_, _, _, _, o, _, _, e, ex, _⟩ := I.hok p _ hk
          exact ⟨o, e, ex⟩
        · obtain ⟨_, _, _, _, o, _, _, e, ex, _⟩ := I.hok p _ hk
          exact ⟨o, e, ex⟩
      obtain ⟨o, e, ex⟩ := z
      refine ⟨⟨o, e, ex.1⟩, fun a e2 => ?_⟩
      cases e2
      exact ⟨o, e, ex.2.1⟩
    · obtain ⟨o, _, _, _, e, ex, _⟩ := I.hok p _ hk
      refine ⟨⟨o, e, ex.1⟩, fun a e2 => ?_⟩
      cases e2
      exact ⟨o, e, ex.2.1⟩
  | _ => exact False.elim ty
noncomputable def tBM0 (K : PySem.W.Frag) (T : String) (r : V → List V → Hp → VK → Prop) (to : TE) : TE := fun σ H Q => to σ H fun x H1 => tyV K T x H1 ∧ r x [] H1 Q
noncomputable def tBM (K : PySem.W.Frag) (T : String) (r : V → List V → Hp → VK → Prop) (to : TE) (t : TA) : TE := fun σ H Q => to σ H fun x H1 => tyV K T x H1 ∧ t σ H1 fun xs H2 => r x xs H2 Q
variable {o e : Expr} {es : List Expr} {to : TE} {t : TA} {name : Str} {apos cpos : Pos} {T id : String} {r : V → List V → Hp → VK → Prop}
theorem pe_bm0 (pa : PlainAttrs T) (slot : Slot T name id) (hty : typeOf (.builtin id) = pure (.type "method_descriptor")) (hm : MtR X id r) (ho : PE X o to)
    (hbase : attributeBase o name X.env (eval o X.env) = eval o X.env := by rfl) (hline : (apos.endLine == cpos.line) = true := by rfl) : PE X (.Call (.Attribute o name apos) [] [] cpos) (tBM0 X.K T r to) := by
  intro pins s σ H Q I h
  refine wpAny_Call_method0_late hbase hline (thn (ho pins s σ H _ I h) fun v s1 ⟨x, H1, I1, r1, ty, q1⟩ => ?_)
  obtain ⟨h1, h2⟩ := tyV_is I1 r1 ty
  exact ⟨T, id, pa, slot, hty, h1, h2, Calls.callWith_builtin rfl (PySem.evalArgs_none (hm pins s1 σ H1 x [] v [] Q I1 r1 .nil q1))⟩
theorem pe_bm (pa : PlainAttrs T) (slot : Slot T name id) (hty : typeOf (.builtin id) = pure (.type "method_descriptor")) (hm : MtR X id r) (ho : PE X o to) (ha : PA X (e :: es) t)
    (hbase : attributeBase o name X.env (eval o X.env) = eval o X.env := by rfl)
    (hfew : ((backTo cpos (starEach (e :: es) X.env)).all (fun x => !x.1) && (backToKw cpos (keywordEach [] X.env)).all (fun x => x.1.isSome)
      && decide ((e :: es).length + ([] : List Keyword).length + (if ([] : List Keyword).isEmpty then 0 else 1) < 30)) = true := by rfl)
    (hline : (apos.endLine == cpos.line) = true := by rfl) (hs : starEach (e :: es) X.env = (false, eval e X.env) :: starEach es X.env := by rfl) (hplain : (backTo cpos (starEach es X.env)).any (·.1) = false := by rfl) :
    PE X (.Call (.Attribute o name apos) (e :: es) [] cpos) (tBM X.K T r to t) := by
  intro pins s σ H Q I h
  refine wpAny_Call_method_late hbase hfew hline rfl (thn (ho pins s σ H _ I h) fun v s1 ⟨x, H1, I1, r1, ty, q1⟩ => ?_)
  obtain ⟨h1, h2⟩ := tyV_is I1 r1 ty
  refine ⟨T, id, pa, slot, hty, h1, h2, ?_⟩
  have hA := ha cpos pins s1 σ H1 _ I1 q1
  rw [hs] at hA ⊢
  refine Calls.callWith_builtin (by show (false || (backTo cpos (starEach es X.env)).any (·.1)) = false; rw [hplain] <;> rfl) (Calls.evalArgs_plain ?_)
  exact thn hA fun us s2 ⟨vs, H2, I2, r2, q2⟩ => hm pins s2 σ H2 x vs v us Q I2 r1 r2 q2
/- xs.append(e), list.index on a module's tuple .. are MtR facts of 06m -/
end
end L2

namespace L2
open PySem PySem.Spec PyProof.Rows

noncomputable def MtM (X : Cx) (id : String) (r : V → List V → Hp → VK → Prop) : Prop :=
  ∀ (pins : List (Addr × Obj)) (s : Shared) (σ : St) (H : Hp) (x : V) (xs : List V) (v : Value) (us : List Value) (Q : VK), Inv X pins σ H s → RelV x v → Vals xs us → r x xs H Q →
    wpAny (model X.prog X.w) X.A (call (.builtin id) (v :: us)) (EP X pins σ Q) X.xe s

theorem Vals.one : ∀ {x : V} {us : List Value}, Vals [x] us → ∃ u, us = [u] ∧ RelV x u
  | _, _, .cons r .nil => ⟨_, rfl, r⟩
theorem Vals.zero : ∀ {us : List Value}, Vals [] us → us = []
  | _, .nil => rfl
theorem Vals.dropLast {xs : List V} {us : List Value} (h : Vals xs us) : Vals xs.dropLast us.dropLast := by
  induction h with
  | nil => exact .nil
  | cons r t ih =>
    cases t with
    | nil => exact .nil
    | cons q t' => exact .cons r ih
theorem erase_last {α : Type} (l : List α) : l.eraseIdx (l.length - 1) = l.dropLast := by
  induction l with
  | nil => rfl
  | cons a r ih =>
    cases r with
    | nil => rfl
    | cons b r =>
      have e : (a :: b :: r).length - 1 = ((b :: r).length - 1) + 1 := by
        have h1 : (a :: b :: r).length = r.length + 2 := rfl
        have h2 : (b :: r).length = r.length + 1 := rfl
        (first | lia | omega)
      rw [e, List.eraseIdx_cons_succ, ih]
      all_goals rfl

section
variable {X : Cx} {pins : List (Addr × Obj)} {σ : St} {H : Hp} {s : Shared} {l b : Addr} {xs ys zs : List V}

theorem Inv.lset {its its' : List Value} {n : Nat} {f : Array Value → Array Value} {t' : Nat} (I : Inv X pins σ H s) (hH : H l = some (.lst xs))
    (e : s.heap.get? l = some { cls := .type "list", data := .seq its.toArray n }) (hf : f its.toArray = its'.toArray) (hv : Vals ys its') (hz : ys.length ≤ sizeLine) :
    Inv X pins σ (upd H l (.lst ys)) { s with heap := s.heap.update l (Obj.mapSeq f), toks := t' } := by
  have q := PySem.IsL.update e f
  rw [hf] at q
  refine I.write (x := l) (e := l) (by rw [hH]; exact trivial) (.inl rfl) (fun b' u hb hu => (Heap.get?_update_other s.heap (Obj.mapSeq f) (Ne.symm hb)).trans hu) ⟨_, q⟩ ?_
  exact ⟨hz, its', _, hv, q⟩
theorem Inv.lnew {its : List Value} {t' : Nat} (I : Inv X pins σ H s) (hv : Vals ys its) (hz : ys.length ≤ sizeLine) :
    Inv X pins σ (upd H s.heap.objs.size (.lst ys)) { s with heap := s.heap.push { cls := .type "list", data := .seq its.toArray }, toks := t' } :=
  I.laid (fun _ _ q => Heap.get?_push_of_some _ q) (Nat.le_refl _) ⟨hz, its, 0, hv, Heap.get?_push_size _ rfl⟩
theorem Inv.fresh (I : Inv X pins σ H s) : H s.heap.objs.size = none := I.hok.fresh (Nat.le_refl _)
theorem Inv.lstM (I : Inv X pins σ H s) (hH : H l = some (.lst xs)) : xs.length ≤ sizeLine ∧ ∃ (its : List Value) (n : Nat), Vals xs its ∧ xs.length = its.length ∧ s.heap.get? l = some { cls := .type "list", data := .seq its.toArray n } := by
  obtain ⟨z, its, n, r, e⟩ := I.hok l _ hH
  exact ⟨z, its, n, r, r.length, e⟩

theorem notLongL {n : Nat} (h : n ≤ sizeLine) : Builtin.List.listTooLong n = false := by
  unfold Builtin.List.listTooLong
  exact decide_eq_false (by (first | lia | omega))
end

section
variable {X : Cx}

inductive PrAppend (x : V) (vs : List V) (H : Hp) (Q : VK) : Prop
  | mk (l xs y : _) (h0 : x = .ref l) (h1 : vs = [y]) (h2 : H l = some (.lst xs)) (h3 : xs.length < sizeLine) (h4 : Q .non (upd H l (.lst (xs ++ [y])))) : PrAppend  x vs H Q
noncomputable def rAppend : V → List V → Hp → VK → Prop := fun x vs H Q => PrAppend  x vs H Q
theorem mt_append : MtM X "list.append" rAppend := by
  intro pins s σ H x vs v us Q I rx rv h
  obtain ⟨l, xs, y, rfl, rfl, hH, hz, q⟩ := h
  cases rx
  obtain ⟨u, rfl, ru⟩ := rv.one
  obtain ⟨z, its, n, r, hl, e⟩ := I.lstM hH
  refine call_meets F.slot_list_append ⟨_, e, rfl⟩ F.entry_list_append (F.args_list_append_2 _ _) (PySem.list_append l its.toArray n u (by rw [List.size_toArray]; (first | lia | omega))) ⟨e, ?_⟩
  refine ⟨.non, _, I.lset (its' := its ++ [u]) hH e (by simp) (r.append (.cons ru .nil)) ?_, rfl, q⟩
  rw [List.length_append, List.length_singleton]
  (first | lia | omega)

noncomputable def rExtend : V → List V → Hp → VK → Prop := fun x vs H Q => ∃ l b xs zs, x = .ref l ∧ vs = [.ref b] ∧ H l = some (.lst xs) ∧ H b = some (.lst zs) ∧ xs.length + zs.length ≤ sizeLine ∧ Q .non (upd H l (.lst (xs ++ zs)))
theorem mt_extend : MtM X "list.extend" rExtend := by
  intro pins s σ H x vs v us Q I rx rv h
  obtain ⟨l, b, xs, zs, rfl, rfl, hH, hB, hz, q⟩ := h
  cases rx
  obtain ⟨u, rfl, ru⟩ := rv.one
  cases ru
  obtain ⟨z, its, n, r, hl, e⟩ := I.lstM hH
  obtain ⟨z2, its2, n2, r2, hl2, e2⟩ := I.lstM hB
  have hsz : its.toArray.size + its2.toArray.size ≤ sizeLine := by rw [List.size_toArray, List.size_toArray]; (first | lia | omega)
  have hlong : ¬ (!its.toArray.isEmpty && Builtin.List.listTooLong (its.toArray.size + its2.toArray.size)) = true := by
    rw [notLongL hsz, Bool.and_false]
    exact Bool.false_ne_true
  refine call_meets F.slot_list_extend ⟨_, e, rfl⟩ F.entry_list_extend (F.args_list_extend_2 _ _)
    (AutoSeq1.list_extend_list_list_0 l its.toArray n b its2.toArray n2 hlong (by rw [List.size_toArray]; (first | lia | omega)) (by (first | lia | omega))) ⟨e, e2, ?_⟩
  refine ⟨.non, _, I.lset (its' := its ++ its2) hH e (by simp) (r.append r2) ?_, rfl, q⟩
  rw [List.length_append]
  (first | lia | omega)

noncomputable def rPop : V → List V → Hp → VK → Prop := fun x vs H Q => ∃ l xs y, x = .ref l ∧ vs = [] ∧ H l = some (.lst xs) ∧ xs[xs.length - 1]? = some y ∧ Q y (upd H l (.lst xs.dropLast))
theorem mt_pop : MtM X "list.pop" rPop := by
  intro pins s σ H x vs v us Q I rx rv h
  obtain ⟨l, xs, y, rfl, rfl, hH, hy, q⟩ := h
  cases rx
  have hus := rv.zero
  subst hus
  obtain ⟨z, its, n, r, hl, e⟩ := I.lstM hH
  obtain ⟨u, hu, ru⟩ := r.get hy
  have hy' : its.toArray[its.toArray.size - 1]? = some u := by
    show its.toArray[its.length - 1]? = some u
    rw [← Array.getElem?_toList, ← hl]
    exact hu
  refine call_meets F.slot_list_pop ⟨_, e, rfl⟩ F.entry_list_pop (F.args_list_pop_1 _) (MeetsSeq.list_pop_last l its.toArray n u hy' (by rw [List.size_toArray]; (first | lia | omega))) ⟨e, ?_⟩
  refine ⟨y, _, I.lset (its' := its.dropLast) hH e ?_ r.dropLast ?_, ru, q⟩
  · show its.toArray.eraseIdxIfInBounds (its.toArray.size - 1) = its.dropLast.toArray
    rw [List.size_toArray, List.eraseIdxIfInBounds_toArray, erase_last]
  · rw [List.length_dropLast]
    (first | lia | omega)




inductive PrCat (x : V) (y : V) (H : Hp) (Q : VK) : Prop
  | mk (l b xs zs : _) (h0 : x = .ref l) (h1 : y = .ref b) (h2 : H l = some (.lst xs)) (h3 : H b = some (.lst zs)) (h4 : xs.length + zs.length ≤ sizeLine) (h5 : ∀ p, H p = none → Q (.ref p) (upd H p (.lst (xs ++ zs)))) : PrCat  x y H Q
noncomputable def rCat : R2 := fun x y H Q => PrCat  x y H Q
theorem op_cat : OpR X (binaryOp .Add) rCat := by
  intro pins s σ H x y v u Q I rx ry h
  obtain ⟨l, b, xs, zs, rfl, rfl, hH, hB, hz, q⟩ := h
  cases rx
  cases ry
  obtain ⟨z, its, n, r, hl, e⟩ := I.lstM hH
  obtain ⟨z2, its2, n2, r2, hl2, e2⟩ := I.lstM hB
  refine PySem.P.add_list e e2 ?_ (by rw [List.size_toArray, List.size_toArray]; (first | lia | omega))
  have ea : its.toArray ++ its2.toArray = (its ++ its2).toArray := by simp
  rw [ea]
  exact ⟨.ref _, _, I.lnew (t' := s.toks) (r.append r2) (by rw [List.length_append]; (first | lia | omega)), rfl, q _ I.fresh⟩

end

section
variable {prog : Program} {w : World} {A : Around} {E : Value → Shared → Prop} {s : Shared}
set_option maxRecDepth 100000 in
end

section
variable {X : Cx}
end
end L2

namespace Att
open PySem PySem.W PySem.Calls PyProof.Rows

theorem ints_of_wellAll {P : Params} {h : Heap} : ∀ (ns : List Int) (vs : List Value), WellAll P h vs (ns.map WData.int) → IntsAre vs ns := by
  intro ns
  induction ns with
  | nil =>
    intro vs w
    rw [List.map_nil] at w
    cases w
    exact .nil
  | cons n ns ih =>
    intro vs w
    rw [List.map_cons] at w
    cases w with
    | cons a b =>
      cases a
      exact .cons _ _ (ih _ b)

theorem script_of {l : OpenLaw} {n : Nat} (hn : l.most = some n) {P : Params} {h : Heap} {args : List WData} {vals : List Value}
    (hpre : l.row.toRowW.claim.pre args = true) (hwl : WellAll P h vals args) :
    ∃ a vs ns, vals = [Value.ref a] ∧ args = [WData.list (ns.map WData.int)] ∧ h.get? a = some { cls := .type "list", data := .seq vs.toArray } ∧ IntsAre vs ns ∧ ns.length ≤ n := by
  have hsh : WShape.hasAll [] args [.list .int] = true := (pre_splitW hpre).1
  have hc : l.pre.holds [] { args := args } = true := (pre_splitW hpre).2
  obtain ⟨d, r, rfl, h1, h2⟩ := hasAllW_cons hsh
  obtain rfl := hasAllW_nil h2
  obtain ⟨xs, rfl, h3⟩ := hasW_list h1
  obtain ⟨ns, rfl⟩ := items_int h3
  have hlen : ns.length ≤ n := by
    unfold OpenLaw.pre at hc
    have h4 : (WTm.not (.lt (.lit (.int (n : Int))) (.len (.arg 0)))).holds [] { args := [.list (ns.map .int)] } = true := by
      have h4 := (holds_andW hc).1
      rw [hn] at h4
      exact h4
    have h5 := condW_of h4 (w_not (w_lt w_lit (w_len_list (w_arg rfl))))
    rw [List.length_map] at h5
    refine Nat.le_of_not_lt fun q => ?_
    have q' : (n : Int) < ((ns.length : Nat) : Int) := by (first | lia | omega)
    first
      | (rw [decide_eq_true q'] at h5; exact absurd h5 (by decide))
      | (simp at h5; (first | lia | omega))
  cases hwl with
  | cons w1 w2 =>
    cases w2
    cases w1 with
    | list ho hall => exact ⟨_, _, ns, rfl, rfl, ho, ints_of_wellAll ns _ hall, hlen⟩

theorem post_true (l : OpenLaw) (args : List WData) : l.row.toRowW.claim.post args (.bool true) args = true :=
  postW_of (r := l.row.toRowW) (X := (true == true))
    (show WShape.has [] (.bool true) .bool = true by first | rfl | decide | simp [WShape.has, WShape.arms, WShape.armsAll])
    (show (WTm.eq .res (.lit (.bool true))).value [] { args := args, res := some (.bool true), after := args } = some (.bool (true == true)) from w_eq_bool (w_res rfl) w_lit) rfl


theorem attach_call {l : OpenLaw} {n : Nat} {q : Program} {loose : List Str} {XP : (Str → Option Value) → Heap → Prop} {YP : World → Heap → Prop} {d : DefRec}
    (hn : l.most = some n) (hdf : d.params.defaults = [])
    (call : ∀ (w : World) (s₀ s₁ : Shared) (mg mb : Str → Option Value) (fa : Addr) (o : Obj) (pm cd doc : Value) (a : Addr) (vs : List Value) (ns : List Int),
      Ground q loose [] XP w s₀ mg mb s₁.heap → YP w s₁.heap →
      s₁.heap.get? fa = some o → o.data = .func (docDef d.name d.params d.body d.scope pm cd doc) → s₁.heap.CodeRec cd d.name → mg d.name = some (.ref fa) →
      s₁.heap.get? a = some { cls := .type "list", data := .seq vs.toArray } → IntsAre vs ns → ns.length ≤ n → s₁.gens = #[] →
      codeAny (model l.prog w) callerA (.call (.ref fa) ⟨[.ref a], []⟩) (fun r s' => r = .ok (.ret (.bool true)) ∧ OldK s₁.heap s'.heap ∧ s'.os = s₁.os ∧ AllBare s'.gens) s₁) :
    WalkO q loose XP YP l.row.toRowW d [] (fun f vs => PySem.call f vs) := by
  intro w s₀ s₁ mg mb G Y fa o pm cd doc dV kV ho hd hcd hD hmg hg args vals as hpre hlay hrd hwl hlo
  obtain rfl : dV = .none := Dflts.none hD hdf
  obtain rfl : kV = .none := Dflts.noKw hD
  obtain ⟨a, vs, ns, rfl, rfl, hobj, hints, hlen⟩ := script_of hn hpre hwl
  refine enter_call (codeAny_mono (call w s₀ s₁ mg mb fa o pm cd doc a vs ns G Y ho (fd_plain hd) hcd hmg hobj hints hlen hg) fun r s' hq => ?_)
  obtain ⟨rfl, h2, h3, h4⟩ := hq
  exact ⟨.inl ⟨.bool true, .bool true, [], rfl, fun _ => rfl, .bool true, post_true l _, fun _ => ⟨List.Pairwise.nil, fun _ hm => (nomatch hm)⟩⟩, h2, h3, h4⟩


section
variable {prog : Program} {w : World} {A : Around} {E : Value → Shared → Prop} {s : Shared} {K : Frag}






end
end Att

namespace L2
open PySem PySem.Spec PyProof.Rows

theorem vals_ints : ∀ {vs : List Value} {ns : List Int}, IntsAre vs ns → Vals (ns.map V.int) vs
  | _, _, .nil => .nil
  | _, _, .cons n t h => .cons ⟨t, rfl⟩ (vals_ints h)

noncomputable def Only (H : Hp) : Prop := ∀ b, H b = none ∨ ∃ o xs, H b = some (.frz o (.lst xs))

theorem law_call {P : Program} {w : World} {K : PySem.W.Frag} {mg mb : Str → Option Value} {CX : CXT} {k : Nat} {fa a : Addr} {fd : FuncData} {x : Str} {sp : Sp} {s₁ : Shared} {vs : List Value} {ns : List Int}
    (KX : K.In s₁.heap) (hns : s₁.heap.Ns mainGlobals mg) (hb : s₁.heap.Ns builtinsNs mb) (hbb : ∀ x : Str, x ≠ "__name__" → mb x = bootBuiltins x) (hlim : s₁.heap.NoLimit) (hg : s₁.gens = #[])
    (ha : s₁.heap.get? a = some { cls := .type "list", data := .seq vs.toArray }) (hi : IntsAre vs ns) (hl : ns.length ≤ sizeLine) (hr : Room k callerA)
    (F : ∀ base : Heap, K.In base → base.Ns mainGlobals mg → FnOk P w K mg base CX k fa fd [x] sp) (hbind : ∀ (s : Shared) (u : Value), BindsTo s fd ⟨[u], []⟩ [(x, u)])
    (hsp : ∀ H : Hp, Only H → SqL K H a (ns.map V.int) → sp [.ref a] H (fun v _ => v = .bl true) fun _ _ _ => False)
    (hCX : ∀ H e s', CX [] H s₁ (fun _ _ _ => False) e s' → False) :
    codeAny (model P w) callerA (.call (.ref fa) ⟨[.ref a], []⟩) (fun r s' => r = .ok (.ret (.bool true)) ∧ OldK s₁.heap s'.heap ∧ s'.os = s₁.os ∧ AllBare s'.gens) s₁ := by
  have rv := vals_ints hi
  have lenV := hi.length
  -- from an abstract heap in which nothing but the script may be tracked
  have core : ∀ H : Hp, Only H → SqL K H a (ns.map V.int) → HOk P w H s₁.heap → (∀ b, H b ≠ none → b = a) → (H a ≠ none → K.lookup a = none) →
      codeAny (model P w) callerA (.call (.ref fa) ⟨[.ref a], []⟩) (fun r s' => r = .ok (.ret (.bool true)) ∧ OldK s₁.heap s'.heap ∧ s'.os = s₁.os ∧ AllBare s'.gens) s₁ := by
    intro H hO hS hok hA hK
    have base_of : ∀ {b : Addr} {o : Obj}, s₁.heap.get? b = some o → H b = none → (hidT s₁.heap H).get? b = some o := fun e n => hidT_get e n
    have noA : ∀ {b : Addr} {o : Obj} {es : Array DictEntry} {ep : Nat}, s₁.heap.get? b = some o → o.data = .dict es ep → H b = none := fun {b o es ep} e d => by
      cases q : H b with
      | none => rfl
      | some u =>
        have e' : b = a := hA b (by rw [q]; simp)
        subst e'
        rw [ha] at e; cases e
        have d' : Data.seq vs.toArray _ = Data.dict es ep := d
        cases d'
    have nsK : ∀ {b : Addr} {m : Str → Option Value}, s₁.heap.Ns b m → (hidT s₁.heap H).Ns b m := fun {b m} ⟨o, es, ep, e, d, r⟩ => ⟨o, es, ep, base_of e (noA e d), d, r⟩
    have hKb : K.In (hidT s₁.heap H) := fun b o e => base_of (KX b o e) (by
      cases q : H b with
      | none => rfl
      | some u =>
        have e' : b = a := hA b (by rw [q]; simp)
        subst e'
        rw [hK (by rw [q]; simp)] at e; cases e)
    have hM : Mod K mg (hidT s₁.heap H) := ⟨hKb, nsK hns, ⟨mb, nsK hb, hbb⟩, let ⟨mc, h1, h2⟩ := hlim; ⟨mc, nsK h1, h2⟩⟩
    have e0 : Env0 P w K mg (hidT s₁.heap H) callerA [] s₁ H := ⟨rfl, hM, fun b o e => of_hidT e, Nat.le_of_eq (hidT_size _ _), trivial, fun b hb => absurd (show b ∈ ([] : List Addr) from hb) (by simp), hok, .of_eq hg⟩
    refine codeAny_mono ((F _ hKb (nsK hns)).run callerA [] s₁ H ⟨[.ref a], []⟩ [.ref a] [.ref a] _ _ hr e0 (hbind s₁ (.ref a)) (.cons rfl .nil) (hsp H hO hS)) fun r s' h => ?_
    cases r with
    | error e => exact (hCX H e s' h).elim
    | ok fl =>
      cases fl with
      | next => exact False.elim h
      | brk => exact False.elim h
      | cont => exact False.elim h
      | ret u =>
        obtain ⟨v, H', os, bare, un, hok', r', q⟩ := h
        have q' : v = .bl true := q
        subst q'
        obtain rfl : u = Value.bool true := r'
        refine ⟨rfl, OldK.of_keep fun b o e => ?_, os, bare⟩
        cases q : H b with
        | none => exact un.keep b o e q (by intro z; exact absurd (show b ∈ ([] : List Addr) from z) (by simp)) (by simp)
        | some u =>
          rcases hO b with z | ⟨ob, xs, z⟩
          · rw [q] at z; cases z
          · have z2 := un.frzs b ob _ z
            obtain ⟨e1, _⟩ := hok b _ z
            obtain ⟨e2, _⟩ := hok' b _ z2
            rw [e] at e1; cases e1
            exact e2
  cases hk : K.lookup a with
  | some o =>
    -- the script is one of the module's own objects
    have e := KX a o hk
    rw [ha] at e
    cases e
    refine core (fun _ => none) (fun _ => .inl rfl) (.inr ⟨_, vs.toArray, _, hk, rfl, rfl, rfl, by rw [List.size_toArray, lenV]; exact hl, by simpa using rv⟩) (fun b u z => by have z' : (none : Option HO) = some u := z; cases z') (fun b z => absurd rfl z) fun z => absurd rfl z
  | none =>
    refine core (fun b => if b = a then some (.frz { cls := .type "list", data := .seq vs.toArray } (.lst (ns.map V.int))) else none) (fun b => ?_) (.inl (.inr ⟨{ cls := .type "list", data := .seq vs.toArray }, if_pos rfl⟩)) (fun b u z => ?_) (fun b z => ?_) fun _ => hk
    · by_cases hb : b = a
      · exact .inr ⟨_, _, if_pos hb⟩
      · exact .inl (if_neg hb)
    · by_cases hb : b = a
      · have z' := (if_pos hb).symm.trans z
        cases z'
        subst hb
        exact ⟨ha, by rw [List.length_map]; exact hl, vs, _, rv, ha⟩
      · have z' := (if_neg hb).symm.trans z
        cases z'
    · by_cases hb : b = a
      · exact hb
      · exact absurd (if_neg hb) z
end L2

namespace L2
open PySem PySem.Spec PyProof.Rows

noncomputable abbrev KOf {K : PySem.W.Frag} {h : Heap} (_ : K.In h) : PySem.W.Frag := K

theorem walk_of {l : PySem.W.OpenLaw} {n k : Nat} {q : Program} {loose : List Str} {XP : (Str → Option Value) → Heap → Prop} {YP : World → Heap → Prop} {d : DefRec} {K : Params → PySem.W.Frag} {CX : World → CXT} {sp : World → Sp} {x : Str}
    (hn : l.most = some n) (hn2 : n ≤ sizeLine) (hdf : d.params.defaults = []) (hr : Room k callerA)
    (hY : ∀ (w : World) (h : Heap), YP w h → (K w.params).In h)
    (F : ∀ (w : World) (mg : Str → Option Value) (fa : Addr) (h : Heap), (K w.params).In h → h.Ns mainGlobals mg → mg d.name = some (.ref fa) →
      ∃ fd : FuncData, (∀ (s : Shared) (u : Value), BindsTo s fd ⟨[u], []⟩ [(x, u)]) ∧
        ∀ base : Heap, (K w.params).In base → base.Ns mainGlobals mg → FnOk l.prog w (K w.params) mg base (CX w) k fa fd [x] (sp w))
    (hsp : ∀ (w : World) (H : Hp) (a : Addr) (ns : List Int), ns.length ≤ n → Only H → SqL (K w.params) H a (ns.map V.int) → sp w [.ref a] H (fun v _ => v = .bl true) fun _ _ _ => False)
    (hCX : ∀ (w : World) (H : Hp) (s : Shared) (e : Value) (s' : Shared), CX w [] H s (fun _ _ _ => False) e s' → False) :
    PySem.W.WalkO q loose XP YP l.row.toRowW d [] (fun f vs => PySem.call f vs) := by
  refine Att.attach_call hn hdf fun w s₀ s₁ mg mb fa o pm cd doc a vs ns G Y ho hd hcd hmg hobj hints hlen hg => ?_
  have KX := hY w _ Y
  obtain ⟨fd, hb, hF⟩ := F w mg fa _ KX G.T.g hmg
  exact law_call KX G.T.g G.T.b G.T.builtins G.T.nolimit hg hobj hints (Nat.le_trans hlen hn2) hr hF hb (fun H hO hS => hsp w H a ns hlen hO hS) fun H e s' => hCX w H s₁ e s'
end L2

/- THE LAST THEOREM (shape; LID, My.* are yours):
   My.Adr: a structure of the addresses that your layer names (classes, functions); My.Txt K t: a structure (Prop) of the equations over K;
   My.txt_mk : {K} {implicit addresses ..} (e1 : nsIn K mainGlobals "law" = some (some (.ref f))) (e2 : K.lookup f = some ⟨oc, od, .func (fnOf "law" "law" params body scope dV kV doc pm an cdv ct), sl⟩) (e3 : codeIn K cdv "law" = true) .. : ∃ t, My.Txt K t

set_option maxRecDepth 100000 in
set_option maxHeartbeats 0 in
theorem PySem.Challenge.cw_LID_holds : PySem.Challenge.rw_LID.Holds := by
  w_on; o_law; k_head; (case hw => w_witness2)
  k_fill
  refine L2.walk_of (l := PySem.Challenge.rw_LID) (n := 63) (k := 40) (x := "script") (CX := fun w => ..) (sp := fun _ => My.sp_law) rfl (by decide) rfl ⟨rfl, by decide, by decide⟩ (fun w h Y => PySem.W.kIn_of Y) ?F ?S ?C
  case F =>
    intro w mg fa h KX G hmg
    have T : ∃ t, My.Txt (L2.KOf KX) t := by
      dsimp only [L2.KOf]                          -- K must stand as «<heap const> w.params» for k_is
      refine' My.txt_mk ?e1 ?e2 ?e3 ..
      (case e1 => PySem.W.k_is)                    -- in the order: a name -> its address -> its object -> its parts
      (case e2 => PySem.W.k_is)
      ..
    obtain ⟨t, T⟩ := T
    have e0 := hmg.symm.trans (PySem.W.mg_of KX G T.law)
    cases e0                                       -- fa is the law's own address
    exact ⟨_, fun s u => .of_eq rfl, fun base kb nb => My.law_fn T kb nb⟩     -- if «.of_eq rfl» comes too early: refine' ⟨_, ?b, fun base kb nb => My.law_fn T kb nb⟩; exact fun s u => .of_eq rfl
  case S => exact fun w H a ns hl hO hS => ..
  case C => exact ..
(the tactic k_is has no namespace: write k_is) -/

namespace L2
open PySem PySem.Spec PyProof.Rows

noncomputable def inClass (s : Stmt) (j : Nat) : Stmt := match s with
  | .ClassDef _ _ _ body _ _ _ _ _ _ _ => body.getD j (.Pass ⟨0, 0, 0, 0⟩)
  | _ => .Pass ⟨0, 0, 0, 0⟩
noncomputable def defArgs (s : Stmt) : Arguments := match s with
  | .FunctionDef _ a _ _ _ _ _ _ _ _ => a
  | _ => { posonlyargs := [], args := [], vararg := none, kwonlyargs := [], kw_defaults := [], kwarg := none, defaults := [] }
noncomputable def defBody (s : Stmt) : List Stmt := match s with
  | .FunctionDef _ _ b _ _ _ _ _ _ _ => b
  | _ => []
noncomputable def defScope (s : Stmt) : Scope := match s with
  | .FunctionDef _ _ _ _ _ _ sc _ _ _ => sc
  | _ => { kind := .function, names := [], isGenerator := false, isCoroutine := false }

noncomputable abbrev E0 : XK := fun _ _ _ => False

structure Fun (K : PySem.W.Frag) (x qual : Str) (st : Stmt) (f : Addr) (fd : FuncData) : Prop where
  ex : ∃ (oc : Value) (od : Option Addr) (kV doc pm : Value) (an : Option Addr) (cdv ct : Value) (osl : Array (Option Value)),
    fd = PySem.W.fnOf x qual (defArgs st) (defBody st) (defScope st) .none kV doc pm an cdv ct ∧ K.lookup f = some ⟨oc, od, .func fd, osl⟩ ∧ PySem.W.codeIn K cdv qual = true
  kp : PySem.W.keepIn K (.ref f) = true
section
variable {P : Program} {w : World} {K : PySem.W.Frag} {mg : Str → Option Value} {base : Heap}
theorem Fun.binds {x qual : Str} {st : Stmt} {f : Addr} {fd : FuncData} {ps : List Str} (F : Fun K x qual st f fd)
    (h : ∀ (kV doc pm : Value) (an : Option Addr) (cdv ct : Value) (us : List Value), us.length = ps.length → bindArgs (PySem.W.fnOf x qual (defArgs st) (defBody st) (defScope st) .none kV doc pm an cdv ct) ⟨us, []⟩ = pure (ps.zip us)) : Binds K fd ps [] := by
  obtain ⟨oc, od, kV, doc, pm, an, cdv, ct, osl, rfl, lk, hcd⟩ := F.ex
  exact .all (h kV doc pm an cdv ct)
theorem fun_mk {x qual : Str} {st : Stmt} {f : Addr} {oc : Value} {od an : Option Addr} {osl : Array (Option Value)} {kV doc pm cdv ct : Value} (l : K.lookup f = some ⟨oc, od, .func (PySem.W.fnOf x qual (defArgs st) (defBody st) (defScope st) .none kV doc pm an cdv ct), osl⟩)
    (c : PySem.W.codeIn K cdv qual = true) (k : PySem.W.keepIn K (.ref f) = true) : Fun K x qual st f (PySem.W.fnOf x qual (defArgs st) (defBody st) (defScope st) .none kV doc pm an cdv ct) := ⟨⟨oc, od, kV, doc, pm, an, cdv, ct, osl, rfl, l, c⟩, k⟩
end
theorem hu_of {A : Around} {k : Nat} (hr : Room k A) : A.units + 1 < cLine := Nat.lt_of_le_of_lt (Nat.add_le_add_left (by decide : 1 ≤ 64) _) hr.units

section
variable {X : Cx}
theorem pv (i : Nat) {x : Str} {pos : Pos} (hN : X.N[i]? = some x := by rfl) (hv : Vis X.env.scope x := by first | exact Or.inl rfl | exact Or.inr (Or.inl rfl) | exact Or.inr (Or.inr rfl)) (hd : (x == ("__debug__" : Str)) = false := by decide)
    (hcd : (x == ("__classdict__" : Str)) = false := by decide) : PE X (.Name x pos) (tVar i) := pe_var hN hv hd hcd
end

theorem iteF {A B : Prop} (h : B) : if false = true then A else B := by
  rw [if_neg Bool.false_ne_true]
  exact h
theorem iteT {A B : Prop} (h : A) : if true = true then A else B := by
  rw [if_pos rfl]
  exact h
theorem ite2 {c A B : Prop} [Decidable c] (h1 : c → A) (h2 : ¬ c → B) : if c then A else B := by
  by_cases h : c
  · rw [if_pos h]
    exact h1 h
  · rw [if_neg h]
    exact h2 h

noncomputable def Same (H H' : Hp) : Prop := ∀ b o, H b = some o → H' b = some o
theorem Same.refl (H : Hp) : Same H H := fun _ _ h => h
theorem Same.trans {H H1 H2 : Hp} (a : Same H H1) (b : Same H1 H2) : Same H H2 := fun c o h => b c o (a c o h)
theorem Same.free {H H' : Hp} (e : Same H H') {l : Addr} (h : H' l = Option.none) : H l = Option.none := by
  cases q : H l with
  | none => rfl
  | some o =>
    rw [e l o q] at h
    cases h
theorem Same.seq {K : PySem.W.Frag} {H H' : Hp} {a : Addr} {xs : List V} (e : Same H H') (h : SqL K H a xs) : SqL K H' a xs := by
  rcases h with (h | ⟨o, h⟩) | h
  · exact .inl (.inl (e _ _ h))
  · exact .inl (.inr ⟨o, e _ _ h⟩)
  · exact .inr h

section
variable {κ : Type} [DecidableEq κ]
end
end L2

namespace L2
open PySem PySem.Spec PyProof.Rows

noncomputable def Fly (h : Heap) (e T : Addr) (cls : Value) (dct : Option Addr) : Prop :=
  ∃ oe vs oT ts, h.get? e = some oe ∧ oe.cls = cls ∧ oe.dict = dct ∧ oe.data = .fields vs ∧ vs[1]? = some (.ref T) ∧ T ≠ e ∧ h.get? T = some oT ∧ oT.data = .fields ts ∧ ts[3]? = some .none
noncomputable def FlyAt (h : Heap) (e T : Addr) (cls : Value) (dct : Option Addr) (fl : Value) : Prop :=
  ∃ oe vs oT ts, h.get? e = some oe ∧ oe.cls = cls ∧ oe.dict = dct ∧ oe.data = .fields vs ∧ vs[1]? = some (.ref T) ∧ T ≠ e ∧ h.get? T = some oT ∧ oT.data = .fields ts ∧ ts[3]? = some fl

structure Noted (fs : List Addr) (e T : Addr) (h h' : Heap) : Prop where
  keep : ∀ b o, b ≠ e → b ∉ fs → h.get? b = some o → h'.get? b = some o
  slot : ∀ b o, b ≠ e → h.get? b = some o → ∃ sl, h'.get? b = some { o with slots := sl }
  new : h.objs.size ≤ T

section
variable {M : Model} {A : Around} {E : Value → Shared → Prop} {s : Shared}

theorem entry_x {base : Heap} {env : Env} {outer : List Env} {L e : Addr} {oe : Obj} {vs : Array Value} {head : Value} {hadNext : Bool} {Q : Unit → Shared → Prop}
    (hfr : A.frames = some (env :: outer)) (hl : s.heap.FunFrames base (env :: outer)) (hf : env.frame = some L) (he : s.heap.get? e = some oe) (hd : oe.data = .fields vs) (hsz : 1 < vs.size)
    (h : ∀ h' T, Noted (frs (env :: outer)) e T s.heap h' → FlyAt h' e T oe.cls oe.dict (rawInt L) → Q () { s with heap := h' }) :
    wpAny M A (do
      let a ← frameOf env
      let pl ← entryPlaceOf L hadNext
      let b ← EntryCells.newEntry head a .none (rawInt L) .none pl
      setField (.ref e) 1 b) Q E s := by
  have nf : e ∉ (env :: outer).filterMap (·.frame) := fun hm => by
    obtain ⟨_, o, ho, hnf⟩ := hl.mem hm
    rw [he] at ho
    cases ho
    exact hnf vs hd
  refine wpAny_bind (wpAny_frameOf_fun hfr hl hf fun h1 so => wpAny_bind (wpAny_entryPlaceOf fun pl hpl => ?_))
  unfold EntryCells.newEntry newFields
  refine wpAny_bind (wpAny_newObj_type ?_ (hpl.sizeOk5 _ _ _ _ _))
  have e1 : h1.get? e = some oe := (so.2.1 e nf).trans he
  generalize hn : ([head, Value.ref L, Value.none, rawInt L, Value.none] ++ (if pl.isEmpty = true then List.replicate 6 Value.none else pl)) = cells
  have c3 : cells.toArray[3]? = some (rawInt L) := by subst hn; simp
  have e2 := Heap.get?_push_of_some (h := h1) { cls := .type "traceback", dict := none, data := .fields cells.toArray } e1
  refine wpAny_setField e2 hd hsz ?_
  have ne : h1.objs.size ≠ e := Nat.ne_of_gt (Heap.lt_size e1)
  have d3 := Obj.data_mapFields hd (·.setIfInBounds 1 (Value.ref h1.objs.size))
  refine h _ h1.objs.size ⟨fun b o hbe hbf hb => ?_, fun b o hbe hb => ?_, Nat.le_of_eq so.1.symm⟩ ?_
  · rw [Heap.get?_update_other _ _ (Ne.symm hbe)]
    exact Heap.get?_push_of_some _ ((so.2.1 b hbf).trans hb)
  · obtain ⟨sl, hs⟩ := so.2.2 b o hb
    refine ⟨sl, ?_⟩
    rw [Heap.get?_update_other _ _ (Ne.symm hbe)]
    exact Heap.get?_push_of_some _ hs
  · refine ⟨_, _, { cls := .type "traceback", dict := none, data := .fields cells.toArray }, cells.toArray, Heap.get?_update_self _ e2 (Obj.isFreed_of_fields d3), Obj.cls_mapFields _ _, ?_, d3, by simp [hsz], ne, ?_, rfl, c3⟩
    · obtain ⟨c, d, dt, sl⟩ := oe
      cases dt <;> rfl
    · rw [Heap.get?_update_other _ _ (Ne.symm ne)]
      exact Heap.get?_push_size h1 rfl

theorem flight_x {e T : Addr} {cls : Value} {dct : Option Addr} {fl : Value} {Q : Unit → Shared → Prop} (ht : FlyAt s.heap e T cls dct fl)
    (h : ∀ h', (∀ b o, b ≠ T → s.heap.get? b = some o → h'.get? b = some o) → Fly h' e T cls dct → Q () { s with heap := h' }) : wpAny M A (setFlight (.ref e) none) Q E s := by
  obtain ⟨oe, vs, oT, ts, he, hc, hdx, hd, h1, ne, hT, hdT, h3⟩ := ht
  have hsz : 3 < ts.size := (Array.getElem?_eq_some_iff.mp h3).1
  refine wpAny_setFlight_none he hd h1 hT hdT hsz (h _ (fun b o hb q => ?_) ?_)
  · rw [Heap.get?_update_other _ _ (Ne.symm hb)]
    exact q
  · refine ⟨oe, vs, _, _, ?_, hc, hdx, hd, h1, ne, Heap.get?_update_self _ hT (Obj.isFreed_of_fields (Obj.data_mapFields hdT _)), Obj.data_mapFields hdT _, by simp [hsz]⟩
    rw [Heap.get?_update_other _ _ ne]
    exact he

theorem note_first {base : Heap} {env : Env} {outer : List Env} {L e : Addr} {oe : Obj} {vs : Array Value} {Q : Unit → Shared → Prop}
    (hfr : A.frames = some (env :: outer)) (hl : s.heap.FunFrames base (env :: outer)) (hf : env.frame = some L) (he : s.heap.get? e = some oe) (hd : oe.data = .fields vs) (h1 : vs[1]? = some .none)
    (h : ∀ h' T, Noted (frs (env :: outer)) e T s.heap h' → FlyAt h' e T oe.cls oe.dict (rawInt L) → Q () { s with heap := h' }) : wpAny M A (noteFrame (.ref e) env) Q E s := by
  unfold noteFrame
  simp only [hf]
  refine wpAny_bind (wpAny_field he hd h1 ?_)
  rw [if_neg (by decide)]
  exact entry_x hfr hl hf he hd (Array.getElem?_eq_some_iff.mp h1).1 h
theorem note_next {base : Heap} {env : Env} {outer : List Env} {L e T0 : Addr} {cls : Value} {dct : Option Addr} {Q : Unit → Shared → Prop}
    (hfr : A.frames = some (env :: outer)) (hl : s.heap.FunFrames base (env :: outer)) (hf : env.frame = some L) (ht : Fly s.heap e T0 cls dct)
    (h : ∀ h' T, (∀ b o, b ≠ e → b ≠ T0 → b ∉ frs (env :: outer) → s.heap.get? b = some o → h'.get? b = some o) → (∀ b o, b ≠ e → b ≠ T0 → s.heap.get? b = some o → ∃ sl, h'.get? b = some { o with slots := sl }) → s.heap.objs.size ≤ T →
      FlyAt h' e T cls dct (rawInt L) → (∀ b o, s.heap.get? b = some o → ∃ o', h'.get? b = some o') → Q () { s with heap := h' }) : wpAny M A (noteFrame (.ref e) env) Q E s := by
  obtain ⟨oe, vs, oT, ts, he, rfl, rfl, hd, h1, ne, hT, hdT, h3⟩ := ht
  unfold noteFrame
  simp only [hf]
  refine wpAny_bind (wpAny_field he hd h1 ?_)
  rw [if_pos (show (Value.ref T0 != Value.none) = true from by simp)]
  refine wpAny_bind (wpAny_field hT hdT h3 ?_)
  rw [if_neg (show ¬ ((Value.none == rawInt L) = true) from by simp [rawInt])]
  refine wpAny_bind (wpAny_setField hT hdT (Array.getElem?_eq_some_iff.mp h3).1 ?_)
  have oth : ∀ b, b ≠ T0 → (s.heap.update T0 (Obj.mapFields (·.setIfInBounds 3 Value.none))).get? b = s.heap.get? b := fun b hb => Heap.get?_update_other _ _ (Ne.symm hb)
  have selfT := Heap.get?_update_self (Obj.mapFields (·.setIfInBounds 3 Value.none)) hT (Obj.isFreed_of_fields (Obj.data_mapFields hdT _))
  have nrec : ∀ b o, s.heap.get? b = some o → (∀ vs, o.data ≠ .fields vs) → b ≠ T0 := fun b o hb hnf q => by
    rw [q, hT] at hb
    cases hb
    exact hnf ts hdT
  have hl' : (s.heap.update T0 (Obj.mapFields (·.setIfInBounds 3 Value.none))).FunFrames base (env :: outer) := hl.of_keeps fun b o hb hnf => ⟨o, (oth b (nrec b o hb hnf)).trans hb, rfl⟩
  refine entry_x (s := { s with heap := s.heap.update T0 (Obj.mapFields (·.setIfInBounds 3 Value.none)) }) hfr hl' hf ((oth e (Ne.symm ne)).trans he) hd (Array.getElem?_eq_some_iff.mp h1).1 fun h' T N F => ?_
  refine h h' T (fun b o b1 b2 b3 q => N.keep b o b1 b3 ((oth b b2).trans q)) (fun b o b1 b2 q => N.slot b o b1 ((oth b b2).trans q)) (Nat.le_trans (Nat.le_of_eq (Heap.size_after_update _ _ _).symm) N.new) F fun b o q => ?_
  by_cases b1 : b = e
  · subst b1
    obtain ⟨oe', _, _, _, q', _⟩ := F
    exact ⟨oe', q'⟩
  · by_cases b2 : b = T0
    · subst b2
      obtain ⟨sl, q'⟩ := N.slot b _ b1 selfT
      exact ⟨_, q'⟩
    · obtain ⟨sl, q'⟩ := N.slot b o b1 ((oth b b2).trans q)
      exact ⟨_, q'⟩
end
end L2

namespace L2
open PySem PySem.Spec PyProof.Rows

noncomputable def CX1 (P : Program) (w : World) : CXT := fun outer H s E ev s' =>
  ∃ e T cls dct H', ev = .ref e ∧ s'.os = s.os ∧ AllBare s'.gens ∧ Un (frs outer) [] H H' s.heap s'.heap ∧ HOk P w H' s'.heap ∧ Fly s'.heap e T cls dct ∧
    s.heap.get? e = none ∧ s.heap.get? T = none ∧ H' e = none ∧ H' T = none ∧ E cls dct H'

section
variable {X : Cx} {pins : List (Addr × Obj)} {σ : St} {H : Hp} {s : Shared} {h' : Heap}
theorem left_ok (I : Inv X pins σ H s) (hex : X.ex = []) (bad : List Addr) (hb : ∀ b ∈ bad, X.s₀.heap.get? b = none ∧ H b = none)
    (k1 : ∀ b o, b ∉ bad → b ∉ frs X.stack → s.heap.get? b = some o → h'.get? b = some o) (k2 : ∀ b o, b ∉ bad → s.heap.get? b = some o → ∃ sl, h'.get? b = some { o with slots := sl })
    (k3 : ∀ b o, s.heap.get? b = some o → ∃ o', h'.get? b = some o') : Un X.fs [] X.H₀ H X.s₀.heap h' ∧ HOk X.prog X.w H h' := by
  have B := I.base
  rw [hex] at B
  have nb : ∀ b o, X.s₀.heap.get? b = some o → b ∉ bad := fun b o q z => by
    rw [(hb b z).1] at q
    cases q
  have nL : ∀ b o, X.s₀.heap.get? b = some o → b ≠ X.env.locals := fun b o q => Nat.ne_of_lt (Nat.lt_of_lt_of_le (Heap.lt_size q) I.ok.above)
  have e0 : ∀ b : Addr, b ∉ ([] : List Addr) := fun b => by simp
  refine ⟨⟨fun b o q n hf _ => ?_, fun b o q n hf _ => ?_, B.free, fun b o q _ => ?_, B.tups, B.frzs, B.tbls⟩, fun a u q => ?_⟩
  · refine k1 b o (nb b o q) (fun z => ?_) (B.keep b o q n hf (e0 b))
    rcases List.mem_cons.mp (I.stkSub b z) with z | z
    · exact nL b o q z
    · exact hf z
  · obtain ⟨sl, q1⟩ := B.slot b o q n hf (e0 b)
    obtain ⟨sl', q2⟩ := k2 b _ (nb b o q) q1
    exact ⟨sl', q2⟩
  · obtain ⟨o1, q1⟩ := B.there b o q (e0 b)
    exact k3 b o1 q1
  · have tr : ∀ b v, H b = some v → b ∉ bad ∧ b ∉ frs X.stack := fun b v z => ⟨(fun y => absurd ((hb b y).2.symm.trans z) (by simp)), fun y => absurd ((I.stkFree b y).symm.trans z) (by simp)⟩
    refine (I.hok a u q).stay (fun b v hbv z => ?_) (fun _ z => z) fun _ _ z => z
    rcases hbv with rfl | hbv
    · exact k1 b v (tr b _ q).1 (tr b _ q).2 z
    · exact k1 b v (tr b _ hbv).1 (tr b _ hbv).2 z
end

section
variable {P : Program} {w : World} {K : PySem.W.Frag} {mg : Str → Option Value} {base : Heap} {N : List Str} {qual : Str} {scope : Scope} {f : Addr} {cd : Value} {A : Around} {outer : List Env} {s₀ : Shared} {H₀ : Hp} {E : XK}
noncomputable abbrev cx1 (P : Program) (w : World) (K : PySem.W.Frag) (mg : Str → Option Value) (base : Heap) (N : List Str) (qual : Str) (scope : Scope) (f : Addr) (cd : Value) (A : Around) (outer : List Env) (s₀ : Shared) (H₀ : Hp) (E : XK) : Cx :=
  cxOf (CX1 P w) P w K mg base N qual scope f cd A outer s₀ H₀ E

theorem xe_made {pins : List (Addr × Obj)} {σ : St} {H : Hp} {s : Shared} {e : Addr} {oe : Obj} {vs : Array Value} (I : Inv (cx1 P w K mg base N qual scope f cd A outer s₀ H₀ E) pins σ H s)
    (he : s.heap.get? e = some oe) (hd : oe.data = .fields vs) (h1 : vs[1]? = some .none) (hn : s₀.heap.get? e = none) (hH : H e = none) (q : E oe.cls oe.dict H) : (cx1 P w K mg base N qual scope f cd A outer s₀ H₀ E).xe (.ref e) s := by
  show wpAny _ _ (leaving _ _) _ _ _
  unfold leaving
  refine wpAny_bind (note_first (base := base) (L := s₀.heap.objs.size) I.ok.frames I.stack rfl he hd h1 fun h1' T Nt F => ?_)
  refine flight_x (s := { s with heap := h1' }) F fun h2 k F2 => ?_
  have bT : s.heap.objs.size ≤ T := Nt.new
  have tn : ∀ b o, s.heap.get? b = some o → b ≠ T := fun b o z => Nat.ne_of_lt (Nat.lt_of_lt_of_le (Heap.lt_size z) bT)
  have s0T : s₀.heap.objs.size ≤ T := Nat.le_trans I.sz bT
  obtain ⟨u, hk⟩ := left_ok (h' := h2) I rfl [e] (fun b hb => by
      have z : b = e := by simpa using hb
      subst z
      exact ⟨hn, hH⟩)
    (fun b o b1 b2 z => k b o (tn b o z) (Nt.keep b o (by simpa using b1) b2 z))
    (fun b o b1 z => by
      obtain ⟨sl, z1⟩ := Nt.slot b o (by simpa using b1) z
      exact ⟨sl, k b _ (tn b o z) z1⟩)
    (fun b o z => by
      by_cases b1 : b = e
      · subst b1
        obtain ⟨oe', _, _, _, z1, _⟩ := F2
        exact ⟨oe', z1⟩
      · obtain ⟨sl, z1⟩ := Nt.slot b o b1 z
        exact ⟨_, k b _ (tn b o z) z1⟩)
  exact ⟨e, T, _, _, H, rfl, I.os, I.bare, u, hk, F2, hn, Heap.get?_none_of_le s0T, hH, I.hok.fresh bT, q⟩

theorem pass1 : Passes (CX1 P w) (cx1 P w K mg base N qual scope f cd A outer s₀ H₀ E) E := by
  intro pins σ H s ev s' I hc
  obtain ⟨e, T0, cls, dct, H', rfl, os, bare, un, hok, F0, hne, hnT, hHe, hHT, q⟩ := hc
  have I' : Inv (cx1 P w K mg base N qual scope f cd A outer s₀ H₀ E) pins σ H' s' := I.call' (ch := []) os un hok bare fun b z => absurd z (by simp)
  have old : ∀ b, s.heap.get? b = none → s₀.heap.get? b = none := fun b z => by
    cases q1 : s₀.heap.get? b with
    | none => rfl
    | some o =>
      obtain ⟨o', q2⟩ := I.base.there b o q1 (show b ∉ ([] : List Addr) by simp)
      rw [z] at q2
      cases q2
  show wpAny _ _ (leaving _ _) _ _ _
  unfold leaving
  refine wpAny_bind (note_next (base := base) (L := s₀.heap.objs.size) I'.ok.frames I'.stack rfl F0 fun h1' T k1 k2 bT F k3 => ?_)
  refine flight_x (s := { s' with heap := h1' }) F fun h2 k F2 => ?_
  have tn : ∀ b o, s'.heap.get? b = some o → b ≠ T := fun b o z => Nat.ne_of_lt (Nat.lt_of_lt_of_le (Heap.lt_size z) bT)
  have s0T : s₀.heap.objs.size ≤ T := Nat.le_trans I'.sz bT
  obtain ⟨u, hk⟩ := left_ok (h' := h2) I' rfl [e, T0] (fun b hb => by
      rcases List.mem_cons.mp hb with z | hb
      · subst z
        exact ⟨old b hne, hHe⟩
      · have z : b = T0 := by simpa using hb
        subst z
        exact ⟨old b hnT, hHT⟩)
    (fun b o b1 b2 z => k b o (tn b o z) (k1 b o (fun y => b1 (by simp [y])) (fun y => b1 (by simp [y])) b2 z))
    (fun b o b1 z => by
      obtain ⟨sl, z1⟩ := k2 b o (fun y => b1 (by simp [y])) (fun y => b1 (by simp [y])) z
      exact ⟨sl, k b _ (tn b o z) z1⟩)
    (fun b o z => by
      obtain ⟨o1, z1⟩ := k3 b o z
      exact ⟨o1, k b _ (tn b o z) z1⟩)
  exact ⟨e, T, cls, dct, H', rfl, I'.os, bare, u, hk, F2, old e hne, Heap.get?_none_of_le s0T, hHe, hok.fresh bT, q⟩
theorem own1 : PassesOwn (model P w) (cx1 P w K mg base N qual scope f cd A outer s₀ H₀ E).A (cx1 P w K mg base N qual scope f cd A outer s₀ H₀ E).env (cx1 P w K mg base N qual scope f cd A outer s₀ H₀ E).xe := PassesOwn.leaving
end
end L2

namespace L2
open PySem PySem.Spec PyProof.Rows

theorem ObjOk.there {P : Program} {w : World} {H : Hp} {h : Heap} {a : Addr} {o : HO} (x : ObjOk P w H h a o) : ∃ ob, h.get? a = some ob := by
  cases o with
  | lst xs => obtain ⟨_, _, _, _, e⟩ := x; exact ⟨_, e⟩
  | tup xs => obtain ⟨_, _, _, o, e, _⟩ := x; exact ⟨_, e⟩
  | dK kvs => obtain ⟨_, _, _, _, o, _, _, e, _⟩ := x; exact ⟨_, e⟩
  | dT kvs => obtain ⟨_, _, _, _, o, _, _, e, _⟩ := x; exact ⟨_, e⟩
  | set S n => obtain ⟨o, _, _, _, e, _⟩ := x; exact ⟨_, e⟩
  | ins C dx fs => obtain ⟨_, _, _, e, _⟩ := x; exact ⟨_, e⟩
  | own y => exact x
  | xd fs => obtain ⟨_, ⟨_, _, _, e, _⟩, _⟩ := x; exact ⟨_, e⟩
  | rng lo hi => obtain ⟨_, _, _, e⟩ := x; exact ⟨_, e⟩
  | frz ob u => obtain ⟨e, _⟩ := x; exact ⟨_, e⟩
  | tbl ps => exact ⟨_, (show h.get? a = some _ from x)⟩
  | met f y => exact ⟨_, (show h.get? a = some _ from x)⟩
  | ext φ => obtain ⟨_, e, _⟩ := x; exact e
theorem HOk.new {P : Program} {w : World} {H : Hp} {h : Heap} {a : Addr} (x : HOk P w H h) (e : h.get? a = none) : H a = none := by
  cases q : H a with
  | none => rfl
  | some u =>
    obtain ⟨o, z⟩ := (x a u q).there
    rw [e] at z
    cases z


section
variable {P : Program} {w : World} {K : PySem.W.Frag} {mg : Str → Option Value} {base : Heap} {N : List Str} {qual : Str} {scope : Scope} {f : Addr} {cd : Value} {A : Around} {outer : List Env} {s₀ : Shared} {H₀ : Hp} {E : XK}
end

section
variable {X : Cx} {x : Str} {C : Addr} {B newId initId : String} {bm : List Value} {np cpos pos : Pos} {E : XK} {e₀ : Expr} {rest : List Expr} {t : TA}
end
end L2

namespace L2
open PySem PySem.Spec PyProof.Rows
section
variable {X : Cx} {pins : List (Addr × Obj)} {σ : St} {H H' : Hp} {s : Shared} {h' : Heap}

theorem Inv.stepN {g' : Array GenState} {t' : Nat} {d' : Drawn} {ch : List Addr} (I : Inv X pins σ H s)
    (hch : ∀ b ∈ ch, (b ∈ X.ex ∨ X.s₀.heap.get? b = none) ∧ b ≠ X.env.locals ∧ (∀ x c, X.env.cells.lookup x = some c → c ≠ b) ∧ ∀ p ∈ X.pn ++ pins, p.1 ≠ b)
    (keep : ∀ b o, b ≠ X.env.locals → b ∉ X.fs → b ∉ ch → s.heap.get? b = some o → H b = none → h'.get? b = some o)
    (slot : ∀ b o, b ≠ X.env.locals → b ∈ X.fs → b ∉ ch → s.heap.get? b = some o → H b = none → ∃ sl, h'.get? b = some { o with slots := sl }) (free : ∀ b o, b ∉ ch → s.heap.get? b = some o → H b = none → H' b = none)
    (there : ∀ b o, b ∉ ch → s.heap.get? b = some o → ∃ o', h'.get? b = some o')
    (tups : ∀ b xs, H b = some (.tup xs) → H' b = some (.tup xs)) (frzs : ∀ b o u, H b = some (.frz o u) → H' b = some (.frz o u)) (tbls : ∀ b ps, H b = some (.tbl ps) → ∃ more, H' b = some (.tbl (ps ++ more)))
    (ns : ∀ m, s.heap.Ns X.env.locals m → h'.Ns X.env.locals m) (hok : HOk X.prog X.w H' h') (hg : AllBare g') :
    Inv X pins σ H' { s with heap := h', gens := g', drawn := d', toks := t' } := by
  have neL : ∀ b o, X.s₀.heap.get? b = some o → b ≠ X.env.locals := fun b o e => Nat.ne_of_lt (Nat.lt_of_lt_of_le (Heap.lt_size e) I.ok.above)
  have neC : ∀ b o, X.s₀.heap.get? b = some o → b ∉ X.ex → b ∉ ch := fun b o e hx hb => by
    rcases (hch b hb).1 with z | z
    · exact hx z
    · rw [z] at e
      cases e
  have cellK : ∀ x c, X.env.cells.lookup x = some c → ∀ v, s.heap.IsCell c v → h'.IsCell c v := fun x c e v ⟨o, ho, hd⟩ => by
    have nch : c ∉ ch := fun z => (hch c z).2.2.1 x c e rfl
    by_cases hc : c ∈ X.fs
    · obtain ⟨sl, q⟩ := slot c o (I.cne x c e) hc nch ho (I.freeC x c e)
      exact ⟨_, q, hd⟩
    · exact ⟨o, keep c o (I.cne x c e) hc nch ho (I.freeC x c e), hd⟩
  refine ⟨I.ok, I.os, hg, ⟨fun b o e n hb hx => ?_, fun b o e n hb hx => ?_, fun b o e n hx => ?_, fun b o e hx => ?_, fun b xs e => tups b xs (I.base.tups b xs e), fun b o xs e => frzs b o xs (I.base.frzs b o xs e), fun b ps e => ?_⟩, ?_, fun x c e => ?_, ?_, fun x c e => ?_, fun p hp => ?_, hok, I.len⟩
  · exact keep b o (neL b o e) hb (neC b o e hx) (I.base.keep b o e n hb hx) (I.base.free b o e n hx)
  · obtain ⟨sl, e1⟩ := I.base.slot b o e n hb hx
    obtain ⟨sl', e2⟩ := slot b _ (neL b o e) hb (neC b o e hx) e1 (I.base.free b o e n hx)
    exact ⟨sl', e2⟩
  · obtain ⟨o', e1⟩ := I.base.there b o e hx
    exact free b o' (neC b o e hx) e1 (I.base.free b o e n hx)
  · obtain ⟨o', e1⟩ := I.base.there b o e hx
    exact there b o' (neC b o e hx) e1
  · obtain ⟨m1, e1⟩ := I.base.tbls b ps e
    obtain ⟨m2, e2⟩ := tbls b _ e1
    exact ⟨m1 ++ m2, by rw [e2, Array.append_assoc]⟩
  · obtain ⟨m, hn, hl⟩ := I.loc
    refine ⟨m, ns m hn, fun i x v e1 e2 e3 => ?_⟩
    obtain ⟨u, r, l⟩ := hl i x v e1 e2 e3
    refine ⟨u, r, ?_⟩
    rcases l with l | ⟨k, c, e, z⟩
    · exact .inl l
    · exact .inr ⟨k, c, e, cellK x c e _ z⟩
  · obtain ⟨v, z⟩ := I.cell x c e
    exact ⟨v, cellK x c e v z⟩
  · obtain ⟨m, ⟨o, _, _, ho, _⟩, _⟩ := I.loc
    exact free _ o (fun z => (hch _ z).2.1 rfl) ho I.free
  · obtain ⟨v, o, ho, hd⟩ := I.cell x c e
    exact free c o (fun z => (hch c z).2.2.1 x c e rfl) ho (I.freeC x c e)
  · obtain ⟨e, n, ne, nf, d⟩ := I.pin p hp
    have nch : p.1 ∉ ch := fun z => (hch p.1 z).2.2.2 p hp rfl
    exact ⟨keep p.1 p.2 ne nf nch e n, free p.1 p.2 nch e n, ne, nf, d⟩

structure Apart (X : Cx) (pins : List (Addr × Obj)) (e : Addr) : Prop where
  old : X.s₀.heap.get? e = none
  loc : e ≠ X.env.locals
  cel : ∀ x c, X.env.cells.lookup x = some c → c ≠ e
  pin : ∀ p ∈ X.pn ++ pins, p.1 ≠ e
theorem Inv.apart (I : Inv X pins σ H s) (hex : X.ex = []) {e : Addr} (hn : s.heap.get? e = none) : Apart X pins e := by
  have ne : ∀ b o, s.heap.get? b = some o → b ≠ e := fun b o q z => by
    rw [z, hn] at q
    cases q
  refine ⟨?_, ?_, fun x c q => ?_, fun p hp => ne _ _ (I.pin p hp).1⟩
  · cases q1 : X.s₀.heap.get? e with
    | none => rfl
    | some o =>
      obtain ⟨o', q2⟩ := I.base.there e o q1 (by rw [hex]; simp)
      rw [hn] at q2
      cases q2
  · obtain ⟨m, ⟨o, _, _, ho, _⟩, _⟩ := I.loc
    exact Ne.symm (ne _ _ ho)
  · obtain ⟨v, o, ho, _⟩ := I.cell x c q
    exact ne _ _ ho

theorem Inv.track {e : Addr} {φ : Heap → Prop} (I : Inv X pins σ H s) (a : Apart X pins e) (hH : H e = none) (ht : ∃ o, s.heap.get? e = some o) (p : φ s.heap) (st : ∀ h1 h2 : Heap, φ h1 → (∀ o, h1.get? e = some o → h2.get? e = some o) → φ h2) :
    Inv X pins σ (upd H e (.ext φ)) s := by
  have nn : ∀ b u, H b = some u → b ≠ e := fun b u q z => by
    rw [z, hH] at q
    cases q
  refine ⟨I.ok, I.os, I.bare, ⟨I.base.keep, I.base.slot, fun b o q n hx => ?_, I.base.there, fun b xs q => ?_, fun b o u q => ?_, fun b ps q => ?_⟩, I.loc, I.cell, ?_, fun x c q => ?_, fun pp hp => ?_, fun b u q => ?_, I.len⟩
  · rw [upd_ne (fun z => by rw [z, a.old] at q; cases q)]
    exact I.base.free b o q n hx
  · rw [upd_ne (nn b _ (I.base.tups b xs q))]
    exact I.base.tups b xs q
  · rw [upd_ne (nn b _ (I.base.frzs b o u q))]
    exact I.base.frzs b o u q
  · obtain ⟨m, z⟩ := I.base.tbls b ps q
    exact ⟨m, by rw [upd_ne (nn b _ z)]; exact z⟩
  · rw [upd_ne (Ne.symm a.loc)]
    exact I.free
  · rw [upd_ne (a.cel x c q)]
    exact I.freeC x c q
  · obtain ⟨z1, z2, z3⟩ := I.pin pp hp
    exact ⟨z1, by rw [upd_ne (a.pin pp hp)]; exact z2, z3⟩
  · by_cases hb : b = e
    · subst hb
      rw [upd_same] at q
      cases q
      exact ⟨p, ht, st⟩
    · rw [upd_ne hb] at q
      exact (I.hok b u q).stay (fun _ _ _ z => z) (fun c z => by rw [upd_ne (nn c _ z)]; exact z) fun c xs z => by rw [upd_ne (nn c _ z)]; exact z
noncomputable def drop (H : Hp) (e : Addr) : Hp := fun b => if b = e then none else H b
theorem drop_same {H : Hp} {e : Addr} : drop H e e = none := if_pos rfl
theorem drop_ne {H : Hp} {e b : Addr} (h : b ≠ e) : drop H e b = H b := if_neg h
theorem Inv.untrack {e : Addr} {φ : Heap → Prop} (I : Inv X pins σ H s) (hH : H e = some (.ext φ)) : Inv X pins σ (drop H e) s := by
  have nn : ∀ b u, H b = some u → (∀ ψ, u ≠ .ext ψ) → b ≠ e := fun b u q nu z => by
    rw [z, hH] at q
    cases q
    exact nu φ rfl
  have n0 : ∀ b, H b = none → drop H e b = none := fun b q => by
    unfold drop
    split
    · rfl
    · exact q
  refine ⟨I.ok, I.os, I.bare, ⟨I.base.keep, I.base.slot, fun b o q n hx => n0 b (I.base.free b o q n hx), I.base.there, fun b xs q => ?_, fun b o u q => ?_, fun b ps q => ?_⟩, I.loc, I.cell, n0 _ I.free, fun x c q => n0 _ (I.freeC x c q), fun pp hp => ?_, fun b u q => ?_, I.len⟩
  · have z := I.base.tups b xs q
    rw [drop_ne (nn b _ z fun ψ y => by cases y)]
    exact z
  · have z := I.base.frzs b o u q
    rw [drop_ne (nn b _ z fun ψ y => by cases y)]
    exact z
  · obtain ⟨m, z⟩ := I.base.tbls b ps q
    exact ⟨m, by rw [drop_ne (nn b _ z fun ψ y => by cases y)]; exact z⟩
  · obtain ⟨z1, z2, z3⟩ := I.pin pp hp
    exact ⟨z1, n0 _ z2, z3⟩
  · by_cases hb : b = e
    · subst hb
      rw [drop_same] at q
      cases q
    · rw [drop_ne hb] at q
      exact (I.hok b u q).stay (fun _ _ _ z => z) (fun c z => by rw [drop_ne (nn c _ z fun ψ y => by cases y)]; exact z) fun c xs z => by rw [drop_ne (nn c _ z fun ψ y => by cases y)]; exact z

theorem gone_ok {M : Model} {A : Around} {E : Value → Shared → Prop} {i : Nat} {n : Str} {pos : Pos} {Q : Unit → Shared → Prop} (I : Inv X pins σ H s) (hN : X.N.Nodup) (hi : X.N[i]? = some n) (hk : X.env.scope.names.lookup n = some .local)
    (h : ∀ s', Inv X pins (σ.set i none) H s' → Q () s') : wpAny M A (do bindName X.env n .none; unbindBehindTheSuite X.env n pos) Q E s := by
  obtain ⟨m, hn, hl⟩ := id I.loc
  have hcls : (X.env.scope.kind == .class || (X.env.scope.kind == .module && X.env.locals != X.env.globals)) = false := by rw [I.ok.kind]; rfl
  have hiσ : i < σ.length := by rw [I.len]; exact (List.getElem?_eq_some_iff.mp hi).1
  refine wpAny_nameGoes_keeps hk hn hcls fun h' v hn' hs => h _ ?_
  obtain ⟨oL, _, _, hoL, _⟩ := id hn
  refine ⟨I.ok, I.os, I.bare, ⟨fun b o e n hb hx => ?_, fun b o e n hb hx => ?_, I.base.free, fun b o e hx => ?_, I.base.tups, I.base.frzs, I.base.tbls⟩, ⟨_, hn', fun j y v' e1 e2 e3 => ?_⟩, fun y c e => ?_, I.free, I.freeC, fun p hp => ?_, fun b ob e => ?_, by simpa using I.len⟩
  · exact (hs.2 b (Nat.ne_of_lt (Nat.lt_of_lt_of_le (Heap.lt_size e) I.ok.above))).trans (I.base.keep b o e n hb hx)
  · obtain ⟨sl, e1⟩ := I.base.slot b o e n hb hx
    exact ⟨sl, (hs.2 b (Nat.ne_of_lt (Nat.lt_of_lt_of_le (Heap.lt_size e) I.ok.above))).trans e1⟩
  · obtain ⟨o', e1⟩ := I.base.there b o e hx
    exact ⟨o', (hs.2 b (Nat.ne_of_lt (Nat.lt_of_lt_of_le (Heap.lt_size e) I.ok.above))).trans e1⟩
  · by_cases hj : j = i
    · subst hj
      rw [List.getElem?_set_self hiσ] at e2
      cases e2
    · rw [List.getElem?_set_ne (Ne.symm hj)] at e2
      obtain ⟨u', r', q⟩ := hl j y v' e1 e2 e3
      refine ⟨u', r', ?_⟩
      rcases q with ⟨k, e⟩ | ⟨k, c, e, z⟩
      · refine .inl ⟨k, ?_⟩
        have : y ≠ n := fun e => hj (nodup_ix hN e1 (e ▸ hi))
        simp [this, e]
      · exact .inr ⟨k, c, e, z.sameBut hs (I.cne y c e)⟩
  · obtain ⟨w', z⟩ := I.cell y c e
    exact ⟨w', z.sameBut hs (I.cne y c e)⟩
  · obtain ⟨e, n, ne, nf, d⟩ := I.pin p hp
    exact ⟨(hs.2 p.1 ne).trans e, n, ne, nf, d⟩
  · refine (I.hok b ob e).stay (fun c w' hc q => (hs.2 c ?_).trans q) (fun _ q => q) fun _ _ q => q
    rintro rfl
    have fr := I.free
    rcases hc with rfl | hc
    · rw [fr] at e; cases e
    · rw [fr] at hc; cases hc
end
end L2

namespace L2
open PySem PySem.Spec PyProof.Rows

structure CatchC (K : PySem.W.Frag) (mg : Str → Option Value) (x : Str) (C : Addr) : Prop where
  bound : mg x = some (.ref C)
  obj : ∃ dd cd sl, K.lookup C = some ⟨.type "type", dd, .cls cd, sl⟩
  exc : PySem.W.mroIn K C (.type "BaseException") = some true
theorem excm_K {K : PySem.W.Frag} {mg : Str → Option Value} {x : Str} {prog : Program} {w : World} {A : Around} {E : Value → Shared → Prop} {s : Shared} {e C Cc : Addr} {oe : Obj} {b : Bool} {Q : Bool → Shared → Prop} (X : K.In s.heap) (hm : PySem.W.mroIn K C (.ref Cc) = some b)
    (cc : CatchC K mg x Cc) (he : s.heap.get? e = some oe) (hcls : oe.cls = .ref C) (q : Q b s) : wpAny (model prog w) A (excMatches (.ref e) (.ref Cc)) Q E s := by
  obtain ⟨dd, cd, sl, hl⟩ := cc.obj
  have L1 := PySem.W.looks_mroIn (M := model prog w) X hm
  have L2 := PySem.W.looks_mroIn (M := model prog w) X cc.exc
  have hC := X _ _ hl
  have f := tc_notTuple
  have hT : s.TypeIs (.ref Cc) "type" := ⟨_, hC, rfl⟩
  obtain ⟨hp, g, d, tk, os⟩ := s
  unfold excMatches
  repeat (first | (with_reducible refine wpAny_loadPart_at he ?_; rw [hcls]) | (with_reducible refine wpAny_loadPart_at hC ?_) | (with_reducible refine L1.here ?_) | (with_reducible refine L2.here ?_) | wp_step)
  cases b with
  | true =>
    wp_walk
    exact q
  | false =>
    wp_walk
    exact q

noncomputable def ExcC (e : Addr) (cls : Value) (dct : Option Addr) : HO := .ext fun h => ∃ oe vs, h.get? e = some oe ∧ oe.cls = cls ∧ oe.dict = dct ∧ oe.data = .fields vs

noncomputable abbrev Cx.sup (X : Cx) (e : Addr) : Cx := { X with A := X.A.mark (some (.ref e)), calm := false, xe := fun _ _ => False }
theorem Cx.Ok.sup {X : Cx} (ok : X.Ok) (e : Addr) : (X.sup e).Ok :=
  ⟨ok.mod, ok.kind, ok.glob, ok.blt, ok.above, ok.inj, ok.has, ok.cab, (fun z => absurd (show false = true from z) (by decide)), ok.frames, ok.stk, ok.exf, ok.bs, ok.bsz, ok.noex, ok.exfs, ok.funs, ok.frf⟩
section
variable {X : Cx} {pins : List (Addr × Obj)} {σ : St} {H : Hp} {s : Shared} {e : Addr}
theorem Inv.sup (I : Inv X pins σ H s) (e : Addr) : Inv (X.sup e) pins σ H s := ⟨I.ok.sup e, I.os, I.bare, I.base, I.loc, I.cell, I.free, I.freeC, I.pin, I.hok, I.len⟩
theorem Inv.unsup (ok : X.Ok) (I : Inv (X.sup e) pins σ H s) : Inv X pins σ H s := ⟨ok, I.os, I.bare, I.base, I.loc, I.cell, I.free, I.freeC, I.pin, I.hok, I.len⟩

theorem Inv.recd {T : Addr} {h' : Heap} (I : Inv X pins σ H s) (a : Apart X pins T) (hT : H T = none) (nf : T ∉ X.fs) (k : ∀ b o, b ≠ T → s.heap.get? b = some o → h'.get? b = some o) : Inv X pins σ H { s with heap := h' } := by
  have kt : ∀ b u, H b = some u → b ≠ T := fun b u q z => by
    rw [z, hT] at q
    cases q
  refine I.stepN (g' := s.gens) (d' := s.drawn) (t' := s.toks) (ch := [T]) (fun b hb => ?_) (fun b o _ _ hc q _ => k b o (by simpa using hc) q) (fun b o _ hf hc q _ => ⟨o.slots, k b o (by simpa using hc) q⟩) (fun b o _ _ n => n)
    (fun b o hc q => ⟨o, k b o (by simpa using hc) q⟩) (fun _ _ q => q) (fun _ _ _ q => q) (fun b ps q => ⟨#[], by rw [q]; simp⟩) (fun m hm => ?_) (fun b u q => ?_) I.bare
  · have z : b = T := by simpa using hb
    subst z
    exact ⟨.inr a.old, a.loc, a.cel, a.pin⟩
  · obtain ⟨o, es, ep, ho, r⟩ := hm
    exact ⟨o, es, ep, k _ o (Ne.symm a.loc) ho, r⟩
  · refine (I.hok b u q).stay (fun c v hc z => k c v ?_ z) (fun _ z => z) fun _ _ z => z
    rcases hc with rfl | hc
    · exact kt c u q
    · exact kt c _ hc

theorem catch_core {M : Model} {E0 : Value → Shared → Prop} {E : XK} {ev : Value} {s' : Shared} {Q : Shared → Prop} (hst : X.stack = X.env :: X.outer) (hfr : X.env.frame = some X.env.locals) (hex : X.ex = []) (I : Inv X pins σ H s)
    (hc : CX1 X.prog X.w X.stack H s E ev s')
    (k : ∀ e T cls dct H' s3, ev = .ref e → E cls dct H' → H' e = none → H' T = none → Apart X pins e → Apart X pins T → T ∉ X.fs → Inv X pins σ H' s3 → Fly s3.heap e T cls dct → Q s3) :
    wpAny M X.A (noteFrame ev X.env) (fun _ s2 => wpAny M X.A (setFlight ev none) (fun _ s3 => Q s3) E0 s2) E0 s' := by
  obtain ⟨e, T0, cls, dct, H', rfl, os, bare, un, hok, F0, hne, hnT, hHe, hHT, q⟩ := hc
  have I' : Inv X pins σ H' s' := I.call' (ch := []) os un hok bare fun b z => absurd z (by simp)
  have ae := I.apart hex hne
  have aT0 := I.apart hex hnT
  have hfr' : X.A.frames = some (X.env :: X.outer) := by rw [I.ok.frames, hst]
  have hst' : s'.heap.FunFrames X.base (X.env :: X.outer) := by have z := I'.stack; rwa [hst] at z
  have nfs : ∀ b, b ≠ X.env.locals → b ∉ X.fs → b ∉ frs (X.env :: X.outer) := fun b h1 h2 z => by
    unfold frs at z
    rw [List.filterMap_cons, hfr] at z
    rcases List.mem_cons.mp z with z | z
    · exact h1 z
    · exact h2 z
  refine note_next (base := X.base) (L := X.env.locals) hfr' hst' hfr F0 fun h1 T k1 k2 bT F1 k3 => ?_
  refine flight_x (s := { s' with heap := h1 }) F1 fun h2 k4 F2 => ?_
  have tn : ∀ b o, s'.heap.get? b = some o → b ≠ T := fun b o z => Nat.ne_of_lt (Nat.lt_of_lt_of_le (Heap.lt_size z) bT)
  have HT : H' T = none := hok.fresh bT
  have aT := I'.apart hex (Heap.get?_none_of_le bT)
  have tr : ∀ b u, H' b = some u → b ≠ e ∧ b ≠ T0 ∧ b ∉ frs (X.env :: X.outer) := fun b u z => ⟨(fun y => absurd ((congrArg H' y).symm.trans z) (by rw [hHe]; simp)), (fun y => absurd ((congrArg H' y).symm.trans z) (by rw [hHT]; simp)), fun y => absurd ((I'.stkFree b (by rw [hst]; exact y)).symm.trans z) (by simp)⟩
  refine k e T cls dct H' { s' with heap := h2 } rfl q hHe HT ae aT (I'.nofs bT) ?_ F2
  refine I'.stepN (g' := s'.gens) (d' := s'.drawn) (t' := s'.toks) (ch := [e, T0]) (fun b hb => ?_) (fun b o hL hf hc z _ => k4 b o (tn b o z) (k1 b o (fun y => hc (by simp [y])) (fun y => hc (by simp [y])) (nfs b hL hf) z))
    (fun b o _ _ hc z _ => by
      obtain ⟨sl, z1⟩ := k2 b o (fun y => hc (by simp [y])) (fun y => hc (by simp [y])) z
      exact ⟨sl, k4 b _ (tn b o z) z1⟩) (fun _ _ _ _ n => n)
    (fun b o _ z => by
      obtain ⟨o1, z1⟩ := k3 b o z
      exact ⟨o1, k4 b _ (tn b o z) z1⟩) (fun _ _ z => z) (fun _ _ _ z => z) (fun b ps z => ⟨#[], by rw [z]; simp⟩) (fun m hm => ?_) (fun b u z => ?_) bare
  · rcases List.mem_cons.mp hb with z | hb
    · subst z
      exact ⟨.inr ae.old, ae.loc, ae.cel, ae.pin⟩
    · have z : b = T0 := by simpa using hb
      subst z
      exact ⟨.inr aT0.old, aT0.loc, aT0.cel, aT0.pin⟩
  · obtain ⟨o, es, ep, ho, r⟩ := hm
    obtain ⟨sl, z1⟩ := k2 _ o (Ne.symm ae.loc) (Ne.symm aT0.loc) ho
    exact ⟨_, es, ep, k4 _ _ (tn _ o ho) z1, r⟩
  · refine (I'.hok b u z).stay (fun c v hc y => ?_) (fun _ y => y) fun _ _ y => y
    have t3 : c ≠ e ∧ c ≠ T0 ∧ c ∉ frs (X.env :: X.outer) := by
      rcases hc with rfl | hc
      · exact tr c u z
      · exact tr c _ hc
    exact k4 c v (tn c v y) (k1 c v t3.1 t3.2.1 t3.2.2 y)

theorem suite_as {Cc e T : Addr} {cls : Value} {dct : Option Addr} {s3 : Shared} {D : Ends} {cx n : Str} {np hpos : Pos} {i : Nat} {b₀ : Stmt} {suite : List Stmt} {rest : List ExceptHandler} {ts : TS} (cc : CatchC X.K X.mg cx Cc) (hg : Gl X cx)
    (hN : X.N.Nodup) (hi : X.N[i]? = some n) (hk : X.env.scope.names.lookup n = some .local) (hs : PSs (X.sup e) (b₀ :: suite) ts) (hm : ∃ C, cls = .ref C ∧ PySem.W.mroIn X.K C (.ref Cc) = some true)
    (hH : H e = none) (hT : H T = none) (ae : Apart X pins e) (aT : Apart X pins T) (nT : T ∉ X.fs) (I : Inv X pins σ H s3) (F : Fly s3.heap e T cls dct)
    (h : ts { nx := fun σ' H' => D.nx (σ'.set i none) H', rt := D.rt, bk := fun σ' H' => D.bk (σ'.set i none) H', ct := fun σ' H' => D.ct (σ'.set i none) H' } (σ.set i (some (.ref e))) (upd H e (ExcC e cls dct))) (hd : (cx == ("__debug__" : Str)) = false := by decide) :
    wpAny (model X.prog X.w) X.A (handleBy (.ref e) X.env (.ExceptHandler (some (.Name cx np)) (some n) (b₀ :: suite) hpos :: rest)) (SP X pins D) X.xe s3 := by
  obtain ⟨C, rfl, hmro⟩ := hm
  obtain ⟨oe, vs, oT, ts', he, hcl, hdx, hdt, h1, ne, hoT, hdT, h3⟩ := id F
  have Is := I.sup e
  refine wpAny_handleBy_cons (codeAny_handlers_test (ld_glob (X := X.sup e) Is hg cc.bound ?_ hd)) (by intro q; cases q)
  refine excm_K I.kIn hmro cc he hcl ?_
  refine codeAny_handlers_suite_as (flight_x F fun h' k' F' => ?_)
  have I1 : Inv X pins σ H { s3 with heap := h' } := I.recd aT hT nT k'
  obtain ⟨oe', vs', oT', tsx, he', hcl', hdx', hdt', _⟩ := id F'
  have I2 : Inv X pins σ (upd H e (ExcC e (.ref C) dct)) { s3 with heap := h' } := I1.track ae hH ⟨oe', he'⟩ ⟨oe', vs', he', hcl', hdx', hdt'⟩ fun g1 g2 ⟨a, b, c, d⟩ z => ⟨a, b, z a c, d⟩
  refine store_ok (X := X.sup e) (I2.sup e) hN hi (.inl hk) (v := .ref e) rfl (fun s4 I4 => ?_) (.inr hk)
  refine wpAny_mono (hs pins s4 _ _ _ I4 h) (fun f s5 q => ?_) fun _ _ z => False.elim z
  have go : ∀ {σ5 : St} {H5 : Hp} {f : Flow}, Inv (X.sup e) pins σ5 H5 s5 → (∀ s6, Inv X pins (σ5.set i none) H5 s6 → SP X pins D f s6) → wpAny (model X.prog X.w) X.A (do bindName X.env n .none; unbindBehindTheSuite X.env n hpos) (fun _ s6 => SP X pins D f s6) X.xe s5 :=
    fun I5 k5 => gone_ok (I5.unsup I.ok) hN hi hk fun s6 I6 => k5 s6 I6
  cases f with
  | next => obtain ⟨σ5, H5, I5, q5⟩ := q; exact go I5 fun s6 I6 => ⟨_, H5, I6, q5⟩
  | brk => obtain ⟨σ5, H5, I5, q5⟩ := q; exact go I5 fun s6 I6 => ⟨_, H5, I6, q5⟩
  | cont => obtain ⟨σ5, H5, I5, q5⟩ := q; exact go I5 fun s6 I6 => ⟨_, H5, I6, q5⟩
  | ret u => obtain ⟨v5, σ5, H5, I5, r5, q5⟩ := q; exact go I5 fun s6 I6 => ⟨v5, _, H5, I6, r5, q5⟩
end
end L2

namespace L2
open PySem PySem.Spec PyProof.Rows

noncomputable def PX (X : Cx) (e : Expr) (te : XK → TE) : Prop :=
  ∀ (pins : List (Addr × Obj)) (s : Shared) (σ : St) (H : Hp) (Q : VK) (E : XK) (W : Value → Shared → Prop), Inv X pins σ H s → te E σ H Q →
    (∀ s1 H1 ev s', Inv X pins σ H1 s1 → CX1 X.prog X.w X.stack H1 s1 E ev s' → W ev s') → wpAny (model X.prog X.w) X.A (eval e X.env) (EP X pins σ Q) W s
section
variable {X : Cx} {k : Nat} {f C : Addr} {fd : FuncData} {ps : List Str} {sp : Sp} {dvs : List V} {ds : List Value} {x m : Str} {p pos apos epos cpos : Pos} {e o : Expr} {es : List Expr} {ta : TE} {t : TA}
theorem run_fnW {W : Value → Shared → Prop} {E : XK} {pins : List (Addr × Obj)} {σ : St} {H : Hp} {s : Shared} {Q : VK} {us : List Value} {vs : List V} (F : FnOk X.prog X.w X.K X.mg X.base (CX1 X.prog X.w) k f fd ps sp) (hr : Room k X.A) (hb : Binds X.K fd ps ds) (hd : Vals dvs ds)
    (I : Inv X pins σ H s) (r : Vals vs us) (h : sp (vs ++ dvs) H Q E) (hx : ∀ ev s', CX1 X.prog X.w X.stack H s E ev s' → W ev s') : wpAny (model X.prog X.w) X.A (call (.ref f) us) (EP X pins σ Q) W s := by
  have r2 : Vals (vs ++ dvs) (us ++ ds) := r.append hd
  have hl : (us ++ ds).length = ps.length := by rw [← r2.length]; exact F.len _ _ _ _ h
  refine wpAny_call (codeAny_mono (F.run X.A X.stack s H ⟨us, []⟩ (us ++ ds) (vs ++ dvs) Q E hr I.env0 (hb s us I.kIn hl) r2 h) fun r s' hq => ?_)
  cases r with
  | error ev => exact hx ev s' hq
  | ok fl =>
    cases fl with
    | ret u => exact I.after hq
    | next => exact False.elim hq
    | brk => exact False.elim hq
    | cont => exact False.elim hq
theorem px_meth0 {pl : Sem Bool} (he : ∀ W, PE (X.wish W) o ta) (c : Cls X.K C) (hm : Meth X.K C m f) (F : FnOk X.prog X.w X.K X.mg X.base (CX1 X.prog X.w) k f fd ps sp) (hr : Room k X.A) (hb : Binds X.K fd ps ds) (hd : Vals dvs ds)
    (ht : eval (.Call (.Attribute o m apos) [] [] pos) X.env = (do
      let ov ← eval o X.env
      standAt apos.atName
      let (f, first) ← holding [ov] (getMethod ov m pl)
      callWith pos f first (backTo pos (starEach [] X.env)) (backToKw pos (keywordEach [] X.env))) := by rfl) :
    PX X (.Call (.Attribute o m apos) [] [] pos) (fun E => tMeth C m sp dvs E ta tNil) := by
  intro pins s σ H Q E W I h hx
  refine PySem.W.methodCall_KW (pl := pl) (thn (he W pins s σ H _ (I.wish W) h) fun u s1 ⟨x, H1, I1, rx, a, dx, fs, ex, ea, l, q⟩ => ?_) ht
  subst ex
  obtain rfl : u = Value.ref a := rx
  have I1' : Inv X pins σ H1 s1 := I1.unwish
  refine getmeth_ok I1' ea c hm l ?_
  exact PySem.W.callWith_K0 (first := [.ref a]) I1.kIn hm.kp (run_fnW (us := [.ref a]) (vs := [.ref a]) F hr hb hd I1.unwish (.cons rfl .nil) q fun ev s' z => hx s1 H1 ev s' I1.unwish z)

variable {te : XK → TE} {cx n : Str} {np hpos tpos : Pos} {i : Nat} {b₀ : Stmt} {suite : List Stmt} {ts : TS} {Cc : Addr} {call : Expr}
noncomputable def tTryAs (K : PySem.W.Frag) (Cc : Addr) (i : Nat) (te : XK → TE) (ts : TS) : TS := fun D σ H => te (fun cls dct H' => (∃ C, cls = .ref C ∧ PySem.W.mroIn K C (.ref Cc) = some true) ∧ ∀ e, H' e = none →
    ts { nx := fun σ' H' => D.nx (σ'.set i none) H', rt := D.rt, bk := fun σ' H' => D.bk (σ'.set i none) H', ct := fun σ' H' => D.ct (σ'.set i none) H' } (σ.set i (some (.ref e))) (upd H' e (ExcC e cls dct))) σ H fun _ H1 => D.nx σ H1
theorem body_one {W : Value → Shared → Prop} {Q : Flow → Shared → Prop} {s : Shared} {pins : List (Addr × Obj)} {σ : St} {Q' : VK} (hq : X.env.scope.kind = .function) (h : wpAny (model X.prog X.w) X.A (eval call X.env) (EP X pins σ Q') W s) (k : ∀ s' v H', Inv X pins σ H' s' → Q' v H' → Q .next s')
    (hs : swapsWith call none epos.line X.env = pure false := by rfl) : wpAny (model X.prog X.w) X.A (execs [.Expr call epos] X.env) Q W s := by
  refine wpAny_execs_cons (wpAny_Expr_any (thn h fun v s1 ⟨x, H1, I1, r1, q1⟩ => ?_) (by simp [interactive, hq]) hs)
  exact wpAny_execs_nil (k s1 x H1 I1 q1)
theorem ps_tryAs (hst : X.stack = X.env :: X.outer) (hfr : X.env.frame = some X.env.locals) (hex : X.ex = []) (hc : PX X call te) (cc : CatchC X.K X.mg cx Cc) (hg : Gl X cx)
    (hN : X.N.Nodup) (hi : X.N[i]? = some n) (hk : X.env.scope.names.lookup n = some .local) (hs : ∀ e, PSs (X.sup e) (b₀ :: suite) ts) (hd : (cx == ("__debug__" : Str)) = false := by decide)
    (hsw : swapsWith call none epos.line X.env = pure false := by rfl) :
    PS X (.Try [.Expr call epos] [.ExceptHandler (some (.Name cx np)) (some n) (b₀ :: suite) hpos] [] [] tpos) (tTryAs X.K Cc i te ts) := by
  intro pins s σ H D I h
  refine wpAny_Try_except (body_one I.ok.kind (hc pins s σ H _ _ _ I h fun s1 H1 ev s' I1 z => ?_) (fun s' v H' I' q => ?_) hsw)
  · refine catch_core hst hfr hex I1 z fun e T cls dct H' s3 ee q hHe hHT ae aT nT I3 F3 => ?_
    subst ee
    exact suite_as cc hg hN hi hk (hs e) q.1 hHe hHT ae aT nT I3 F3 (q.2 e hHe) hd
  · exact wpAny_execs_nil ⟨σ, H', I', q⟩
end

section
variable {P : Program} {w : World} {K : PySem.W.Frag} {mg : Str → Option Value} {base : Heap}
theorem Fun.ok1 {x qual : Str} {st : Stmt} {f : Addr} {fd : FuncData} {N ps : List Str} {k : Nat} {sp : Sp} (F : Fun K x qual st f fd) (S : FnScope N ps (defScope st)) (len : ∀ vs H Q E, sp vs H Q E → vs.length = ps.length)
    (hbody : ∀ (cdv : Value) (A : Around) (outer : List Env) (s : Shared) (H : Hp) (vs : List V) (Q : VK) (E : XK), Room k (A.deeper (envOfC qual (defScope st) s.heap.objs.size f cdv)) → sp vs H Q E →
      ∃ t, PSs (cx1 P w K mg base N qual (defScope st) f cdv A outer s H E) (defBody st) t ∧ t { nx := fun _ H' => Q .non H', rt := Q } (start N vs) H) : FnOk P w K mg base (CX1 P w) (k + 1) f fd ps sp := by
  obtain ⟨oc, od, kV, doc, pm, an, cdv, ct, osl, rfl, lk, hcd⟩ := F.ex
  exact fn_of lk hcd S len fun A outer s H vs Q E hr hsp => hbody cdv A outer s H vs Q E hr hsp
end
end L2

set_option maxHeartbeats 4000000
namespace L2
open PySem PySem.Spec PyProof.Rows
open Builtin Builtin.ObjectAttr

noncomputable abbrev bmE : List Value := [.type "Exception", .type "BaseException", .type "object"]
section
variable {prog : Program} {w : World} {A : Around} {E : Value → Shared → Prop} {h : Heap} {g : Array GenState} {d : Drawn} {t : Nat} {os : OsState}
variable {nm q : Str} {C N x : Addr} {bs : List Value} {sn : List Str} {sub : List Value} {ab : Bool} {col : Option Bool} {dd : Option Addr} {k0 k1 k2 k3 k5 : Option Value} {newId : String}
  {mN mA : Str → Option Value} {name : Str} {v : Value}

theorem chk_exc {M : Model} {o : Obj} {nameV : Value} {Q : Unit → Shared → Prop} (hC : h.get? C = some (excClassObj nm q C N bs bmE true sn sub ab col dd k0 k1 k2 k3 k5 newId)) (hx : h.get? x = some o) (hc : o.cls = .ref C)
    (hq : Q () ⟨h, g, d, t, os⟩) : wpAny M A (checkBuiltinCall "BaseException.__getattribute__" ⟨[.ref x, nameV], []⟩) Q E ⟨h, g, d, t, os⟩ := by
  have b1 : builtinKind "BaseException.__getattribute__" = some .slot := by decide +kernel
  have b2 : splitId "BaseException.__getattribute__" = some ("BaseException", "__getattribute__") := by decide +kernel
  have b3 : (Value.ref C :: bmE).contains (.type "BaseException") = true := by rw [List.contains_cons, show bmE.contains (.type "BaseException") = true by decide, Bool.or_true]
  have b4 := F.args_bexc_ga (.ref x) nameV
  simp only [checkBuiltinCall, b1, b2]
  refine wpAny_bind ?_
  unfold isInstance
  repeat (first | (with_reducible refine wpAny_loadPart_at hx ?_; rw [hc]) | (with_reducible refine wpAny_isSubtype_exc hC ?_; rw [b3]) | wp_step)
  exact hq
theorem ent_exc {tk : Tok} {Q : PySem.Fin → Shared → Prop} (hC : h.get? C = some (excClassObj nm q C N bs bmE true sn sub ab col dd k0 k1 k2 k3 k5 newId)) (hn : h.Ns N mN) (hna : mN name = none)
    (hB : typeLookup (.type "Exception") name = pure none) (I : h.Inst x C mA) (hv : mA name = some v) (hq : Q (.done (.ret v)) ⟨h, g, d, t, os⟩) :
    wpAny (model prog w) A (Builtin.«object.__getattribute__» ⟨[.ref x, .str name tk], []⟩) Q E ⟨h, g, d, t, os⟩ := by
  obtain ⟨o, hx, hc, hnc, hd⟩ := I
  rcases hd with ⟨_, hmA⟩ | ⟨dx, hdx, hne, hns⟩
  · rw [hmA name] at hv
    cases hv
  unfold Builtin.«object.__getattribute__»
  repeat (first | (with_reducible refine wpAny_loadPart_at hx ?_; rw [hc]) | (with_reducible refine wpAny_typeLookup_exc hC hn F.attrBase_Exception.mro hB ?_; rw [hna]) | wp_step)
  split
  · rename_i c hcd
    exact absurd hcd (hnc c)
  unfold instanceDict
  repeat (first | (with_reducible refine wpAny_loadPart_at hx ?_; rw [hc]) | with_reducible refine wpAny_loadPart_at hC ?_ | wp_step)
  rw [hdx]
  repeat (first | (with_reducible refine wpAny_nsGet hns.ns ?_; rw [hv]) | wp_step)
  exact hq
theorem load_exc {expr : Bool} {Q : Value → Shared → Prop} (hC : h.get? C = some (excClassObj nm q C N bs bmE true sn sub ab col dd k0 k1 k2 k3 k5 newId)) (hn : h.Ns N mN) (hng : mN "__getattribute__" = none) (hnh : mN "__getattr__" = none) (hna : mN name = none)
    (hB : typeLookup (.type "Exception") name = pure none) (I : h.Inst x C mA) (hv : mA name = some v) (hh : handedOut v = pure v) (hq : Q v ⟨h, g, d, t + 1, os⟩) : wpAny (model prog w) A (getAttr (.ref x) name expr) Q E ⟨h, g, d, t, os⟩ := by
  obtain ⟨o, hx, hc, _⟩ := id I
  have FB := F.attrBase_Exception
  have f3 := FB.ga.bind (.ref x)
  have x0 : (expr && onTheHeap (Value.builtin "BaseException.__getattribute__")) = false := by cases expr <;> rfl
  have x2 : (Value.builtin "BaseException.__getattribute__" == Value.builtin "object.__getattribute__") = false := by decide +kernel
  have x1 : (onTheHeap (Value.ref C) && Value.builtin "BaseException.__getattribute__" == Value.builtin "object.__getattribute__") = false := by rw [x2]; rfl
  unfold getAttr getAttrBy
  repeat (any_goals (first | assumption | (with_reducible refine wpAny_loadPart_at hx ?_; rw [hc]) | (with_reducible refine wpAny_typeLookup_exc hC hn FB.mro FB.ga.lookup ?_; rw [hng]) | (with_reducible refine wpAny_typeLookup_exc hC hn FB.mro FB.noGetattr ?_; rw [hnh]) | wp_step))
  refine codeAny_call_builtin FB.ga.plain F.entry_bexc_ga (chk_exc hC hx hc (ent_exc hC hn hna hB I hv ?_))
  show wpAny _ _ (handedOut v) _ _ _
  rw [hh]
  exact wpAny_pure hq

end
end L2

set_option maxHeartbeats 1000000
namespace L2
open PySem PySem.Spec PyProof.Rows
open Builtin Builtin.ObjectAttr

section
variable {prog : Program} {w : World} {A : Around} {E : Value → Shared → Prop} {h : Heap} {g : Array GenState} {d : Drawn} {t : Nat} {os : OsState}
variable {nm q : Str} {C N x : Addr} {bs : List Value} {sn : List Str} {sub : List Value} {ab : Bool} {col : Option Bool} {dd : Option Addr} {k0 k1 k2 k3 k5 : Option Value} {newId : String}
  {mN mA : Str → Option Value} {name : Str} {v : Value}

theorem sav_dict {tk : Tok} {o : Obj} {vs : Array Value} {b : Bool} {Q : PySem.Fin → Shared → Prop} (hC : h.get? C = some (excClassObj nm q C N bs bmE true sn sub ab col dd k0 k1 k2 k3 k5 newId)) (hx : h.get? x = some o) (hc : o.cls = .ref C) (hdn : o.dict = none) (hdt : o.data = .fields vs)
    (hq : ∀ h' tk, h'.get? x = some { o with dict := some h.objs.size } → h'.Ns1 h.objs.size (fun y => if y = name then some v else none) → (∀ b ob, b ≠ x → h.get? b = some ob → h'.get? b = some ob) → Q (.done (.ret .none)) ⟨h', g, d, tk, os⟩) :
    wpAny (model prog w) A (storeInOwnDict (.ref x) (.ref C) (.str name tk) name v b) Q E ⟨h, g, d, t, os⟩ := by
  unfold storeInOwnDict ownStreamTells ownDictForStores instanceDict
  repeat (first | (with_reducible refine wpAny_loadPart_at hx ?_; rw [hc]) | with_reducible refine wpAny_loadPart_at hC ?_ | wp_step)
  rw [hdn, if_neg (by simp [typeHasDict]), hdt]
  have x1 : (h.push { cls := .type "dict", data := .dict #[] }).get? x = some o := Heap.get?_push_of_some _ hx
  have xs : x ≠ h.objs.size := Nat.ne_of_lt (Heap.lt_size hx)
  refine wpAny_bind (wpAny_alloc' (wpAny_bind (wpAny_update' x1 (wpAny_pure ?_))))
  generalize hu : ((h.push { cls := .type "dict", data := .dict #[] }).update x fun o => { cls := o.cls, dict := some h.objs.size, data := o.data, slots := o.slots }) = hh
  have g1 : hh.get? h.objs.size = some { cls := .type "dict", data := .dict #[] } := by
    rw [← hu]
    exact (Heap.get?_update_ne _ _ _ _ xs.symm).trans (Heap.get?_push_at rfl rfl)
  have g2 : hh.get? x = some { o with dict := some h.objs.size } := by
    rw [← hu]
    refine Heap.get?_update_self _ x1 ?_
    obtain ⟨oc, od, odt, osl⟩ := o
    cases hdt
    rfl
  have nd : hh.Ns h.objs.size (fun _ => none) := ⟨_, #[], _, g1, rfl, fun e he => absurd he (by simp), fun _ => rfl⟩
  show wpAny _ _ (storeInDict h.objs.size (.str name tk) name v) _ _ _
  unfold storeInDict newKeyGuard
  refine wpAny_bind (wpAny_pure (wpAny_bind (wpAny_nsSet1 (Heap.Ns1.of_empty nd) fun h' hn' hs => ?_)))
  obtain ⟨oD, esD, epD, hoD, hdD, hcD⟩ := hn'.count (Within.cons name v Within.nil)
  refine wpAny_bind (wpAny_lookBehind hoD (by rw [hdD]; exact pastItsLine_dict (Nat.le_trans hcD (by rw [List.length_cons, List.length_nil, sizeLine_eq]; (first | lia | omega)))) ?_)
  wp_walk
  refine hq h' _ ((hs.2 x xs).trans g2) hn' fun b ob hb z => (hs.2 b (Nat.ne_of_lt (Heap.lt_size z))).trans ?_
  show hh.get? b = some ob
  rw [← hu]
  exact (Heap.get?_update_ne _ _ _ _ hb).trans (Heap.get?_push_of_some _ z)
theorem sav_entry {tk : Tok} {o : Obj} {vs : Array Value} {Q : PySem.Fin → Shared → Prop} (hC : h.get? C = some (excClassObj nm q C N bs bmE true sn sub ab col dd k0 k1 k2 k3 k5 newId)) (hn : h.Ns N mN) (hna : mN name = none)
    (hB : typeLookup (.type "Exception") name = pure none) (hx : h.get? x = some o) (hc : o.cls = .ref C) (hdn : o.dict = none) (hdt : o.data = .fields vs)
    (hq : ∀ h' tk, h'.get? x = some { o with dict := some h.objs.size } → h'.Ns1 h.objs.size (fun y => if y = name then some v else none) → (∀ b ob, b ≠ x → h.get? b = some ob → h'.get? b = some ob) → Q (.done (.ret .none)) ⟨h', g, d, tk, os⟩) :
    wpAny (model prog w) A (Builtin.«object.__setattr__» ⟨[.ref x, .str name tk, v], []⟩) Q E ⟨h, g, d, t, os⟩ := by
  rw [PySem.W.osa_eq, refuse_eq]
  have hT : ∀ {Q : Value → Shared → Prop}, Q (.ref C) ⟨h, g, d, t, os⟩ → wpAny (model prog w) A (typeOf (.ref x)) Q E ⟨h, g, d, t, os⟩ := fun {Q} z => by
    unfold typeOf
    repeat (first | (with_reducible refine wpAny_loadPart_at hx ?_; rw [hc]) | wp_step)
    exact z
  refine wpAny_bind (wpAny_bind (hT (wpAny_bind (wpAny_mroOf_exc hC ?_))))
  rw [refuseLoop_ref, F.store_Exception.passes (.ref x)]
  refine wpAny_pure (wpAny_bind (hT (wpAny_bind (wpAny_typeLookup_exc hC hn F.store_Exception.mro hB ?_))))
  rw [hna]
  refine wpAny_bind (wpAny_pure ?_)
  exact sav_dict hC hx hc hdn hdt hq
theorem store_E : StoreFacts "Exception" bmE "object.__setattr__" "object" := F.store_Exception
theorem sav_chk {tk : Tok} {o : Obj} {Q : Unit → Shared → Prop} (hC : h.get? C = some (excClassObj nm q C N bs bmE true sn sub ab col dd k0 k1 k2 k3 k5 newId)) (hx : h.get? x = some o) (hc : o.cls = .ref C) (hq : Q () ⟨h, g, d, t, os⟩) :
    wpAny (model prog w) A (checkBuiltinCall "object.__setattr__" ⟨[.ref x, .str name tk, v], []⟩) Q E ⟨h, g, d, t, os⟩ :=
  @wpAny_check_sa A E h g d t os nm q C N x bs bmE sn sub ab col dd k0 k1 k2 k3 k5 "Exception" newId "object.__setattr__" "object" v (model prog w) o (.str name tk) Q store_E hC hx hc hq
theorem sav_call {tk : Tok} {o : Obj} {vs : Array Value} {R : Result → Shared → Prop} (hC : h.get? C = some (excClassObj nm q C N bs bmE true sn sub ab col dd k0 k1 k2 k3 k5 newId)) (hn : h.Ns N mN) (hna : mN name = none)
    (hB : typeLookup (.type "Exception") name = pure none) (hx : h.get? x = some o) (hc : o.cls = .ref C) (hdn : o.dict = none) (hdt : o.data = .fields vs)
    (hq : ∀ h' tk, h'.get? x = some { o with dict := some h.objs.size } → h'.Ns1 h.objs.size (fun y => if y = name then some v else none) → (∀ b ob, b ≠ x → h.get? b = some ob → h'.get? b = some ob) → R (.ok (.ret .none)) ⟨h', g, d, tk, os⟩) :
    codeAny (model prog w) A (.call (.builtin "object.__setattr__") ⟨[.ref x, .str name tk, v], []⟩) R ⟨h, g, d, t, os⟩ := by
  refine codeAny_call_builtin store_E.slot.plain store_E.entry ?_
  exact sav_chk hC hx hc (sav_entry (vs := vs) hC hn hna hB hx hc hdn hdt hq)
theorem sav_exc {o : Obj} {vs : Array Value} {Q : Unit → Shared → Prop} (hC : h.get? C = some (excClassObj nm q C N bs bmE true sn sub ab col dd k0 k1 k2 k3 k5 newId)) (hn : h.Ns N mN) (hns : mN "__setattr__" = none) (hna : mN name = none)
    (hB : typeLookup (.type "Exception") name = pure none) (hx : h.get? x = some o) (hc : o.cls = .ref C) (hdn : o.dict = none) (hdt : o.data = .fields vs)
    (hq : ∀ h' tk, h'.get? x = some { o with dict := some h.objs.size } → h'.Ns1 h.objs.size (fun y => if y = name then some v else none) → (∀ b ob, b ≠ x → h.get? b = some ob → h'.get? b = some ob) → Q () ⟨h', g, d, tk, os⟩) :
    wpAny (model prog w) A (setAttr (.ref x) name v) Q E ⟨h, g, d, t, os⟩ := by
  have SF := F.store_Exception
  have f3 := SF.slot.bind (.ref x)
  unfold setAttr callSpecial? specialOf
  repeat (any_goals (first | assumption | (with_reducible refine wpAny_loadPart_at hx ?_; rw [hc]) | (with_reducible refine wpAny_typeLookup_exc hC hn SF.mro SF.slot.lookup ?_; rw [hns]) | wp_step))
  refine sav_call hC hn hna hB hx hc hdn hdt fun h' tk a b c => ?_
  repeat (any_goals (first | assumption | wp_step))
  exact hq h' tk a b c
end
end L2

namespace L2
open PySem PySem.Spec PyProof.Rows

section
variable {prog : Program} {w : World} {A : Around} {R : Result → Shared → Prop} {s : Shared}
theorem comp_loop {elt target iter : Expr} {ifs : List Expr} {scope : Scope} {pos : Pos} {it acc : Value} {env : Env} (I : Nat → Shared → Prop)
    (turn : ∀ n s, I n s → wpAny (model prog w) A (pyNext it) (fun r s1 => match r with
      | none => R (.ok .next) s1
      | some v => wpAny (model prog w) A (letOwnedTupleGo target it v) (fun _ s1' => wpAny (model prog w) A (assign target env v) (fun _ s2 =>
          wpAny (model prog w) A (forIn ifs true fun c r => if r = true then do let ok ← isTrue c env (eval c env); pure (ForInStep.yield ok) else pure (ForInStep.yield r)) (fun ok s3 =>
            if ok = true then wpAny (model prog w) A (eval elt env) (fun x s4 =>
              wpAny (model prog w) A (call (.builtin "list.append") [acc, x]) (fun _ s5 => ∃ m, m < n ∧ I m s5) (notedBy (model prog w) A env fun e s' => R (.error e) s') s4) (notedBy (model prog w) A env fun e s' => R (.error e) s') s3
            else ∃ m, m < n ∧ I m s3) (notedBy (model prog w) A env fun e s' => R (.error e) s') s2) (notedBy (model prog w) A env fun e s' => R (.error e) s') s1') (notedBy (model prog w) A env fun e s' => R (.error e) s') s1) (notedBy (model prog w) A env fun e s' => R (.error e) s') s)
    (n : Nat) (h : I n s) : codeAny (model prog w) A (.compLoop (.ListComp elt [⟨target, iter, ifs, 0⟩] scope pos) 0 it acc env) R s := by
  refine codeAny_loop rfl I (fun n s hI => ?_) n h
  show wpAny _ A ((compTurn (.ListComp elt [⟨target, iter, ifs, 0⟩] scope pos) 0 it acc env).onRaise (fun x => do noteFrame x env; theTreesLotGoes x)) _ _ s
  refine wpAny_noted ?_
  rw [compTurn_list]
  refine wpAny_bind (wpAny_standAt (wpAny_bind (thn (turn n s hI) fun r s1 h1 => ?_)))
  cases r with
  | none => exact wpAny_pure h1
  | some v =>
    refine wpAny_bind (thn h1 fun _ s1' h1' => wpAny_bind (thn h1' fun _ s2 h2 => wpAny_bind (thn h2 fun ok s3 h3 => ?_)))
    cases ok with
    | false => exact wpAny_pure ⟨rfl, h3⟩
    | true => exact wpAny_bind (wpAny_bind (thn h3 fun x s4 h4 => wpAny_bind (thn h4 fun _ s5 h5 => wpAny_pure (wpAny_pure ⟨rfl, h5⟩))))
end

noncomputable def PIfs (X : Cx) (ifs : List Expr) (t : TT) : Prop :=
  ∀ (pins : List (Addr × Obj)) (s : Shared) (σ : St) (H : Hp) (Q : Bool → Hp → Prop), Inv X pins σ H s → t σ H Q →
    wpAny (model X.prog X.w) X.A (forIn ifs true fun c r => if r = true then do let ok ← isTrue c X.env (eval c X.env); pure (ForInStep.yield ok) else pure (ForInStep.yield r)) (TP X pins σ Q) X.xe s
noncomputable def tNoIf : TT := fun _ H Q => Q true H
theorem pifs_nil {X : Cx} : PIfs X [] tNoIf := by
  intro pins s σ H Q I h
  exact wpAny_pure ⟨H, I, h⟩
theorem pifs_one {X : Cx} {c : Expr} {t : TT} (hc : PT X c t) : PIfs X [c] t := by
  intro pins s σ H Q I h
  show wpAny _ _ (forIn [c] true _) _ _ _
  rw [List.forIn_cons]
  refine wpAny_bind ?_
  rw [if_pos rfl]
  refine wpAny_bind (thn (hc pins s σ H Q I h) fun b s1 q => wpAny_pure ?_)
  exact wpAny_pure q

section
variable {X : Cx} {pins : List (Addr × Obj)} {σ : St} {H : Hp} {s : Shared}
theorem closure_go (env : Env) : ∀ (names : List (Str × NameKind)) (acc : List (Str × Addr)), (∀ y ∈ names, y.2 = .free → ∃ c, env.cells.lookup y.1 = some c) → (∀ x c, acc.lookup x = some c → env.cells.lookup x = some c) →
    ∃ cl, (forIn names acc fun (x : Str × NameKind) (r : List (Str × Addr)) => (match x with | (name, kind) => if (kind == NameKind.free) = true then do let a ← cellOf env name; pure (ForInStep.yield ((name, a) :: r)) else pure (ForInStep.yield r) : Sem (ForInStep (List (Str × Addr))))) = pure cl ∧
      (∀ x c, cl.lookup x = some c → env.cells.lookup x = some c) ∧ (∀ x c, acc.lookup x = some c → ∃ c', cl.lookup x = some c') ∧ ∀ y ∈ names, y.2 = .free → ∃ c, cl.lookup y.1 = some c
  | [], acc, _, h2 => ⟨acc, rfl, h2, fun x c e => ⟨c, e⟩, fun y hy => by simp at hy⟩
  | (n, k) :: r, acc, h1, h2 => by
    rw [List.forIn_cons]
    by_cases hk : k = .free
    · subst hk
      obtain ⟨c, hc⟩ := h1 (n, .free) List.mem_cons_self rfl
      obtain ⟨cl, e1, e2, e3, e4⟩ := closure_go env r ((n, c) :: acc) (fun y hy => h1 y (List.mem_cons_of_mem _ hy)) (fun x c' e => by
        rw [List.lookup_cons] at e
        cases hx : x == n with
        | true =>
          rw [hx] at e
          have : x = n := by simpa using hx
          subst this
          cases e
          exact hc
        | false =>
          rw [hx] at e
          exact h2 x c' e)
      refine ⟨cl, ?_, e2, fun x c' e => ?_, fun y hy hf => ?_⟩
      · have hcell : cellOf env n = pure c := by simp only [cellOf, hc]
        simp only [beq_self_eq_true, if_true, hcell, pure_bind]
        exact e1
      · cases hx : x == n with
        | true => exact e3 x c (by rw [List.lookup_cons, hx])
        | false => exact e3 x c' (by rw [List.lookup_cons, hx]; exact e)
      · rcases List.mem_cons.mp hy with rfl | hy
        · exact e3 n c (by rw [List.lookup_cons]; simp)
        · exact e4 y hy hf
    · obtain ⟨cl, e1, e2, e3, e4⟩ := closure_go env r acc (fun y hy => h1 y (List.mem_cons_of_mem _ hy)) h2
      refine ⟨cl, ?_, e2, e3, fun y hy hf => ?_⟩
      · have hb : (k == NameKind.free) = false := by simpa using hk
        simp only [hb, Bool.false_eq_true, if_false, pure_bind]
        exact e1
      · rcases List.mem_cons.mp hy with rfl | hy
        · exact absurd hf hk
        · exact e4 y hy hf
theorem closure_of {env : Env} {scope : Scope} (h : ∀ y ∈ scope.names, y.2 = .free → ∃ c, env.cells.lookup y.1 = some c) :
    ∃ cl, closureFor scope env = pure cl ∧ (∀ x c, cl.lookup x = some c → env.cells.lookup x = some c) ∧ ∀ y ∈ scope.names, y.2 = .free → ∃ c, cl.lookup y.1 = some c := by
  obtain ⟨cl, e1, e2, _, e4⟩ := closure_go env scope.names [] h (fun x c e => by simp at e)
  refine ⟨cl, ?_, e2, e4⟩
  unfold closureFor
  show (forIn scope.names [] _ >>= fun r => pure r) = pure cl
  rw [show ∀ m : Sem (List (Str × Addr)), (m >>= fun r => pure r) = m from fun m => bind_pure m]
  exact e1
end
end L2

namespace L2
open PySem PySem.Spec PyProof.Rows

noncomputable def Cx.blk (X : Cx) (scope : Scope) (N : List Str) (cl : List (Str × Addr)) (C : Addr) (s : Shared) (H : Hp) (fp : List Addr) (pins : List (Addr × Obj)) : Cx where
  prog := X.prog
  w := X.w
  K := X.K
  mg := X.mg
  base := X.base
  A := X.A
  N := N
  s₀ := s
  H₀ := H
  env := compEnvC scope cl C X.env
  outer := X.stack
  stack := X.stack
  ex := fp
  fn := fun _ => false
  calm := X.calm
  pn := X.pn ++ pins
  xe := fun _ _ => False

noncomputable def capsOf (k : Nat) (is : List Nat) (σ : St) : St := List.replicate k none ++ is.map fun i => (σ[i]?).join

theorem lookup_relabel {env : Env} : ∀ {names : List (Str × NameKind)} {x : Str} {k : NameKind},
    (names.map fun (n, k) => if (k == NameKind.free && env.scope.kind == .function && env.kindOf n == some .cell) then (n, NameKind.cell) else (n, k)).lookup x = some k → ∃ k0, (x, k0) ∈ names ∧ (k0 = k ∨ k0 = .free)
  | [], _, _, h => by simp at h
  | (n, k0) :: r, x, k, h => by
    rw [List.map_cons] at h
    have st : ∃ k1, (if (k0 == NameKind.free && env.scope.kind == .function && env.kindOf n == some .cell) = true then (n, NameKind.cell) else (n, k0)) = (n, k1) ∧ (k1 = k0 ∨ k0 = .free) := by
      split
      · rename_i hc
        refine ⟨_, rfl, .inr ?_⟩
        simp only [Bool.and_eq_true, beq_iff_eq] at hc
        exact hc.1.1
      · exact ⟨_, rfl, .inl rfl⟩
    obtain ⟨k1, e1, e2⟩ := st
    simp only at h
    rw [e1, List.lookup_cons] at h
    cases hx : x == n with
    | true =>
      rw [hx] at h
      have : x = n := by simpa using hx
      subst this
      cases h
      refine ⟨k0, List.mem_cons_self, ?_⟩
      rcases e2 with e2 | e2
      · exact .inl e2.symm
      · exact .inr e2
    | false =>
      rw [hx] at h
      obtain ⟨k2, m, z⟩ := lookup_relabel (env := env) (names := r) h
      exact ⟨k2, List.mem_cons_of_mem _ m, z⟩

structure BlkScope (X : Cx) (scope : Scope) (own capn : List Str) (capI : List Nat) : Prop where
  kind : scope.kind = .function
  cell : ∀ y ∈ scope.names, y.2 ≠ .cell
  names : ∀ y ∈ scope.names, y.2 = .local → scope.names.lookup y.1 = some .local
  free : ∀ y ∈ scope.names, y.2 = .free → X.env.scope.names.lookup y.1 = some .cell
  caps : capI.map (fun i => X.N[i]?) = capn.map some
  capc : ∀ y ∈ capn, X.env.scope.names.lookup y = some .cell ∧ (relabel scope X.env).names.lookup y = some .cell

section
variable {X : Cx} {pins : List (Addr × Obj)} {σ : St} {H : Hp} {s : Shared}
theorem blk_start {scope : Scope} {own capn : List Str} {capI : List Nat} {cl : List (Str × Addr)} {fp : List Addr} {h' : Heap} {t' : Nat} (B : BlkScope X scope own capn capI) (I : Inv X pins σ H s) (hf : ∀ b ∈ fp, FpOk X pins H b) (ho : ∀ b ∈ fp, ∃ o, s.heap.get? b = some o)
    (hcl : ∀ x c, cl.lookup x = some c → X.env.cells.lookup x = some c) (hcf : ∀ y ∈ scope.names, y.2 = .free → ∃ c, cl.lookup y.1 = some c)
    (hn : h'.Ns s.heap.objs.size (fun _ => none)) (hk : ∀ b o, s.heap.get? b = some o → h'.get? b = some o) :
    Inv (X.blk scope (own ++ capn) cl s.heap.objs.size s H fp pins) [] (capsOf own.length capI σ) H { s with heap := h', toks := t' } := by
  have lt : ∀ b o, s.heap.get? b = some o → b ≠ s.heap.objs.size := fun b o e => Nat.ne_of_lt (Heap.lt_size e)
  have hkind : ∀ x, ((relabel scope X.env).names.lookup x = some .cell ∨ (relabel scope X.env).names.lookup x = some .free) → ∃ c, cl.lookup x = some c := fun x hx => by
    have z : ∃ k, (k = .cell ∨ k = .free) ∧ (relabel scope X.env).names.lookup x = some k := by
      rcases hx with hx | hx
      · exact ⟨_, .inl rfl, hx⟩
      · exact ⟨_, .inr rfl, hx⟩
    obtain ⟨k, hk, hx⟩ := z
    obtain ⟨k0, m, z⟩ := lookup_relabel (env := X.env) hx
    have : k0 = .free := by
      rcases z with z | z
      · rcases hk with hk | hk
        · exact absurd (z.trans hk) (B.cell _ m)
        · exact z.trans hk
      · exact z
    exact hcf _ m this
  have nfs : ∀ b, b ≠ X.env.locals → b ∉ X.fs → b ∉ frs X.stack := fun b h1 h2 z => by
    rcases List.mem_cons.mp (I.stkSub b z) with z | z
    · exact h1 z
    · exact h2 z
  have cellAt : ∀ x c, cl.lookup x = some c → ∃ v o, s.heap.get? c = some o ∧ o.data = .cell v := fun x c e => by
    obtain ⟨v, o, ho, hd⟩ := I.cell x c (hcl x c e)
    exact ⟨v, o, ho, hd⟩
  have ok : (X.blk scope (own ++ capn) cl s.heap.objs.size s H fp pins).Ok := by
    refine ⟨I.ok.mod, B.kind, I.ok.glob, I.ok.blt, Nat.le_refl _, fun x y c e1 e2 => I.ok.inj x y c (hcl x c e1) (hcl y c e2), fun x hx => hkind x hx, (fun x c e => absurd (show false = true from e) (by decide)), I.ok.hd, I.ok.frames, .inl rfl, fun b hb => ?_, I.bs, Nat.le_trans I.ok.bsz I.sz, fun b o e hb => ?_, fun b hb => ?_, I.stack, fun b hb => I.stkFree b hb⟩
    · obtain ⟨o, e⟩ := ho b hb
      exact ⟨lt b o e, fun x c ec => (hf b hb).2.2.2.2.1 x c (hcl x c ec)⟩
    · rcases (hf b hb).2.2.2.1 with z | z
      · exact I.ok.noex b o e z
      · exact absurd (Nat.lt_of_lt_of_le (Heap.lt_size (I.ok.bs b o e).1) z) (Nat.lt_irrefl _)
    · exact nfs b (hf b hb).2.1 (hf b hb).2.2.1
  refine ⟨ok, rfl, I.bare, Un.kept hk, ⟨_, hn, fun i x v e1 e2 e3 => ?_⟩, fun x c e => ?_, I.hok.fresh (Nat.le_refl _), fun x c e => I.freeC x c (hcl x c e), fun p hp => ?_, I.hok.kept hk, ?_⟩
  · unfold capsOf at e2
    have hi : own.length ≤ i := by
      by_cases h : own.length ≤ i
      · exact h
      · rw [List.getElem?_append_left (by simpa using h), List.getElem?_replicate] at e2
        split at e2 <;> cases e2
    rw [List.getElem?_append_right (by simpa using hi), List.length_replicate, List.getElem?_map] at e2
    have e1' : (own ++ capn)[i]? = some x := e1
    rw [List.getElem?_append_right hi] at e1'
    cases hc : capI[i - own.length]? with
    | none => rw [hc] at e2; cases e2
    | some j =>
      rw [hc] at e2
      have e4 : (σ[j]?).join = some v := by simpa using e2
      have e5 : σ[j]? = some (some v) := by
        cases q : σ[j]? with
        | none => rw [q] at e4; cases e4
        | some o => rw [q] at e4; cases o with | none => cases e4 | some v' => cases e4; rfl
      have e6 : X.N[j]? = some x := by
        have z := congrArg (fun l => l[i - own.length]?) B.caps
        simp only [List.getElem?_map, hc, e1', Option.map_some] at z
        exact Option.some.inj z
      have cx := B.capc x (List.mem_of_getElem? e1')
      obtain ⟨m, hm, hl⟩ := I.loc
      obtain ⟨u, r, l⟩ := hl j x v e6 e5 (.inr (.inl cx.1))
      refine ⟨u, r, .inr ?_⟩
      obtain ⟨c', hc'⟩ := hkind x (.inl cx.2)
      have hc2 := hcl x c' hc'
      rcases l with ⟨k, _⟩ | ⟨_, c, ec, o, hoc, hdc⟩
      · have k' : X.env.scope.names.lookup x = some .local := k
        rw [cx.1] at k'
        cases k'
      · rw [hc2] at ec
        cases ec
        exact ⟨.inl cx.2, c', hc', o, hk _ _ hoc, hdc⟩
  · obtain ⟨v, o, hoc, hd⟩ := cellAt x c e
    exact ⟨v, o, hk _ _ hoc, hd⟩
  · have hp' : p ∈ X.pn ++ pins := by
      have z : p ∈ (X.pn ++ pins) ++ [] := hp
      simpa using z
    obtain ⟨e, n, ne, nf, d⟩ := I.pin p hp'
    exact ⟨hk _ _ e, n, lt _ _ e, nfs _ ne nf, d⟩
  · show (List.replicate own.length none ++ capI.map _).length = (own ++ capn).length
    have z := congrArg List.length B.caps
    simp only [List.length_map] at z
    simp [z]
end
end L2

namespace L2
open PySem PySem.Spec PyProof.Rows

noncomputable def tLC (wi : TI) (k : Nat) (capI : List Nat) (g : TG) (tt : TT) (te : TE) : TE := fun σ H Q => wi σ H fun J H1 => ∀ D, H1 D = none → ∃ W : Nat → Nat → St → List V → Hp → Prop, (∃ m, W 0 m (capsOf k capI σ) [] (upd H1 D (.lst []))) ∧
  ∀ i m σ' acc H, W i m σ' acc H → (J.stop i H ∧ Q (.ref D) H) ∨ (J.go i H ∧ ∀ x H', J.yld i H x H' → g x σ' H' fun σ2 H2 => tt σ2 H2 fun b H3 =>
    if b = true then te σ2 H3 fun y H4 => H4 D = some (.lst acc) ∧ acc.length < sizeLine ∧ ∃ m', m' < m ∧ W (i + 1) m' σ2 (acc ++ [y]) (upd H4 D (.lst (acc ++ [y]))) else ∃ m', m' < m ∧ W (i + 1) m' σ2 acc H3)

section
variable {X : Cx} {pins : List (Addr × Obj)} {σ : St} {H : Hp} {s : Shared}
theorem blk_end {scope : Scope} {N : List Str} {cl : List (Str × Addr)} {fp : List Addr} {h' : Heap} {σ' : St} {H' : Hp} {s' : Shared} (I : Inv X pins σ H s) (hf : ∀ b ∈ fp, FpOk X pins H b)
    (J : Inv (X.blk scope N cl s.heap.objs.size s H fp pins) [] σ' H' s') (hs : Heap.SameBut s.heap.objs.size s'.heap h') : Inv X pins σ H' { s' with heap := h' } := by
  have B := J.base
  have ne : ∀ b o, s.heap.get? b = some o → b ≠ s.heap.objs.size := fun b o e => Nat.ne_of_lt (Heap.lt_size e)
  have u : Un (frs X.stack) fp H H' s.heap h' := ⟨fun b o e n h1 h2 => (hs.2 b (ne b o e)).trans (B.keep b o e n h1 h2), fun b o e n h1 h2 => by
      obtain ⟨sl, z⟩ := B.slot b o e n h1 h2
      exact ⟨sl, (hs.2 b (ne b o e)).trans z⟩, B.free, fun b o e h2 => by
      obtain ⟨o', z⟩ := B.there b o e h2
      exact ⟨o', (hs.2 b (ne b o e)).trans z⟩, B.tups, B.frzs, B.tbls⟩
  have hok : HOk X.prog X.w H' h' := fun b o e => by
    refine (J.hok b o e).stay (fun c v hc q => (hs.2 c ?_).trans q) (fun _ z => z) fun _ _ z => z
    have fr : H' s.heap.objs.size = none := J.free
    rintro rfl
    rcases hc with z | z
    · rw [← z, fr] at e
      cases e
    · rw [fr] at z
      cases z
  exact I.call' (s' := { s' with heap := h' }) (ch := fp) J.os u hok J.bare fun b hb => ⟨(hf b hb).2.2.2.1, (hf b hb).2.1, (hf b hb).2.2.2.2.1, (hf b hb).2.2.2.2.2⟩

variable {elt iter tg : Expr} {ifs : List Expr} {scope : Scope} {pos : Pos} {own capn : List Str} {capI : List Nat} {wi : TI} {g : TG} {tt : TT} {te : TE}
theorem pe_lc (hc : X.calm = true) (B : BlkScope X scope own capn capI) (hi : PI X tg iter wi) (hg : ∀ cl C s H fp pins, PG (X.blk scope (own ++ capn) cl C s H fp pins) tg g)
    (ht : ∀ cl C s H fp pins, PIfs (X.blk scope (own ++ capn) cl C s H fp pins) ifs tt) (he : ∀ cl C s H fp pins, PE (X.blk scope (own ++ capn) cl C s H fp pins) elt te)
    (hs : ∀ x, foldedSetIterable iter X.env x = pure x := by intro _; rfl) : PE X (.ListComp elt [⟨tg, iter, ifs, 0⟩] scope pos) (tLC wi own.length capI g tt te) := by
  intro pins s σ H Q I h
  rw [eval_ListComp]
  obtain ⟨cl, hclos, hcl, hcf⟩ := closure_of (env := X.env) (scope := scope) (fun y hy hf => I.ok.has y.1 (.inl (B.free y hy hf)))
  refine wpAny_comprehension_free (use := none) rfl hs hclos B.kind B.names (thn (hi pins s σ H _ I h) fun v s1 h1 => thn h1 fun itv s2 h2 => ?_)
  obtain ⟨it, fp, tn, J, H2, e, I2, T, st2, f2, hW⟩ := h2
  subst e
  obtain ⟨W, ⟨m0, w0⟩, turn⟩ := hW s2.heap.objs.size (I2.hok.fresh (Nat.le_refl _))
  refine wpAny_newObj_type (wpAny_newFunctionEnv B.cell (by intro y hy; simp at hy) (fun h4 hns hsb => ?_) B.kind)
  dsimp only at hns hsb ⊢
  have I3 : Inv X pins σ (upd H2 s2.heap.objs.size (.lst [])) { s2 with heap := s2.heap.push { cls := .type "list", dict := none, data := .seq ([] : List Value).toArray } } :=
    I2.laid (t' := s2.toks) (fun b u e => Heap.get?_push_of_some _ e) (Nat.le_refl _) ⟨Nat.zero_le _, [], 0, .nil, Heap.get?_push_size _ rfl⟩
  generalize hs3 : ({ s2 with heap := s2.heap.push { cls := .type "list", dict := none, data := .seq ([] : List Value).toArray } } : Shared) = s3 at I3
  have e3 : s2.heap.push { cls := .type "list", dict := none, data := .seq ([] : List Value).toArray } = s3.heap := by rw [← hs3]
  have ob2 : ∀ b ∈ fp, ∃ o, s2.heap.get? b = some o := fun b hb => let ⟨o, z, _⟩ := T.obj _ _ st2 b hb; ⟨o, z⟩
  have up3 : ∀ b o, s2.heap.get? b = some o → s3.heap.get? b = some o := fun b o z => by
    rw [← e3]
    exact Heap.get?_push_of_some _ z
  have f3 : ∀ b ∈ fp, FpOk X pins (upd H2 s2.heap.objs.size (.lst [])) b := fun b hb => by
    obtain ⟨o, z⟩ := ob2 b hb
    exact ⟨by rw [upd_ne (Nat.ne_of_lt (Heap.lt_size z))]; exact (f2 b hb).1, (f2 b hb).2⟩
  have ob3 : ∀ b ∈ fp, ∃ o, s3.heap.get? b = some o := fun b hb => let ⟨o, z⟩ := ob2 b hb; ⟨o, up3 b o z⟩
  rw [e3] at hns hsb ⊢
  have up4 : ∀ b o, s3.heap.get? b = some o → h4.get? b = some o := fun b o z => (hsb.2 b (Nat.ne_of_lt (Heap.lt_size z))).trans (Heap.get?_push_of_some _ z)
  have IB := blk_start (t' := s2.toks + ([] : List (Str × Value)).length) B I3 f3 ob3 hcl hcf hns up4
  have e4 : ({ s3 with heap := h4, toks := s2.toks + ([] : List (Str × Value)).length } : Shared) = { s2 with heap := h4, toks := s2.toks + ([] : List (Str × Value)).length } := by rw [← hs3]
  rw [e4] at IB
  have tn4 : tn 0 h4 := T.keep _ _ _ st2 fun b hb o z => up4 b o (up3 b o z)
  have fst : ∀ {H' : Hp}, (∀ b ∈ fp, H' b = none) → ∀ b ∈ fp, FpOk (X.blk scope (own ++ capn) cl s3.heap.objs.size s3 (upd H2 s2.heap.objs.size (.lst [])) fp pins) [] H' b := fun {H'} hn b hb => by
    obtain ⟨o, z⟩ := ob3 b hb
    refine ⟨hn b hb, Nat.ne_of_lt (Heap.lt_size z), fun y => ?_, .inl hb, fun x c ec => (f3 b hb).2.2.2.2.1 x c (hcl x c ec), fun p hp => (f3 b hb).2.2.2.2.2 p (by have y : p ∈ (X.pn ++ pins) ++ [] := hp; simpa using y)⟩
    rcases List.mem_cons.mp (I3.stkSub b y) with y | y
    · exact (f3 b hb).2.1 y
    · exact (f3 b hb).2.2.1 y
  have loop : codeAny (model X.prog X.w) X.A (.compLoop (.ListComp elt [⟨tg, iter, ifs, 0⟩] scope pos) 0 (.ref it) (.ref s2.heap.objs.size) (compEnvC scope cl s3.heap.objs.size X.env))
      (compPost (model X.prog X.w) X.A X.xe none (EP X pins σ Q) (.ref s2.heap.objs.size) s3.heap.objs.size) { s2 with heap := h4, toks := s2.toks + ([] : List (Str × Value)).length } := by
    refine comp_loop (fun n s' => ∃ i σ' acc H', Inv (X.blk scope (own ++ capn) cl s3.heap.objs.size s3 (upd H2 s2.heap.objs.size (.lst [])) fp pins) [] σ' H' s' ∧ tn i s'.heap ∧ (∀ b ∈ fp, H' b = none) ∧ W i n σ' acc H') ?_ m0 ⟨0, _, [], _, IB, tn4, fun b hb => (f3 b hb).1, w0⟩
    rintro n s5 ⟨i, σ5, acc, H5, I5, st5, fr5, w5⟩
    have no : ∀ {α : Type} {t : Sem α} {Q : α → Shared → Prop} {E : Value → Shared → Prop} {s : Shared}, wpAny (model X.prog X.w) X.A t Q (fun _ _ => False) s → wpAny (model X.prog X.w) X.A t Q E s := fun z => wpAny_mono z (fun _ _ y => y) fun _ _ y => y.elim
    rcases turn i n σ5 acc H5 w5 with ⟨stop, qn⟩ | ⟨go, step⟩
    · refine no (thn (T.done (X.blk scope (own ++ capn) cl s3.heap.objs.size s3 (upd H2 s2.heap.objs.size (.lst [])) fp pins) rfl rfl rfl hc i [] s5 σ5 H5 _ I5 (fst fr5) st5 stop) fun r s6 ⟨hr, I6⟩ => ?_)
      subst hr
      obtain ⟨m, hm, _⟩ := id I6.loc
      exact ⟨m, hm, fun h' hs' => ⟨.ref s2.heap.objs.size, H5, blk_end I3 f3 I6 hs', rfl, qn⟩⟩
    · refine no (thn (T.item (X.blk scope (own ++ capn) cl s3.heap.objs.size s3 (upd H2 s2.heap.objs.size (.lst [])) fp pins) rfl rfl rfl hc i [] s5 σ5 H5 _ I5 (fst fr5) st5 go) fun r s6 ⟨u, hr, h6⟩ => ?_)
      subst hr
      refine no (thn h6 fun _ s7 ⟨x, H7, I7, r7, y7, st7, fr7⟩ => ?_)
      have I7' := I7.pinned (fst fr7) (T.obj _ _ st7)
      have kp : ∀ {σ8 : St} {H8 : Hp} {s8 : Shared}, Inv (X.blk scope (own ++ capn) cl s3.heap.objs.size s3 (upd H2 s2.heap.objs.size (.lst [])) fp pins) ([] ++ pinsAt fp s7.heap) σ8 H8 s8 → tn (i + 1) s8.heap ∧ ∀ b ∈ fp, H8 b = none := fun {σ8 H8 s8} I8 => by
        refine ⟨T.keep _ _ _ st7 fun b hb o z => (I8.pin (b, o) (List.mem_append_right _ (List.mem_append_right _ (mem_pinsAt hb z)))).1, fun b hb => ?_⟩
        obtain ⟨o, z, d⟩ := T.obj _ _ st7 b hb
        exact (I8.pin (b, o) (List.mem_append_right _ (List.mem_append_right _ (mem_pinsAt hb z)))).2.1
      refine no (thn (hg cl s3.heap.objs.size s3 _ fp pins _ s7 σ5 H7 x u _ I7' r7 (step x H7 y7)) fun _ s8 ⟨σ8, H8, I8, q8⟩ => ?_)
      refine no (thn (ht cl s3.heap.objs.size s3 _ fp pins _ s8 σ8 H8 _ I8 q8) fun b s9 ⟨H9, I9, q9⟩ => ?_)
      cases b with
      | false =>
        obtain ⟨m', hm, w9⟩ := q9
        exact ⟨m', hm, i + 1, σ8, acc, H9, I9.unpinned, (kp I9).1, (kp I9).2, w9⟩
      | true =>
        refine no (thn (he cl s3.heap.objs.size s3 _ fp pins _ s9 σ8 H9 _ I9 q9) fun y s10 ⟨yv, H10, I10, r10, hD, hz, m', hm, w10⟩ => ?_)
        refine no (thn (mt_append _ s10 σ8 H10 (.ref s2.heap.objs.size) [yv] (.ref s2.heap.objs.size) [y] (fun v H11 => v = .non ∧ H11 = upd H10 s2.heap.objs.size (.lst (acc ++ [yv]))) I10 rfl (.cons r10 .nil) ⟨_, acc, yv, rfl, rfl, hD, hz, rfl, rfl⟩) fun _ s11 ⟨_, H11, I11, _, _, e11⟩ => ?_)
        subst e11
        exact ⟨m', hm, i + 1, σ8, acc ++ [yv], _, I11.unpinned, (kp I11).1, (kp I11).2, w10⟩
  exact codeAny_compStart_list loop (T.self _ 0 _ _ _ tn4 loop)
end
end L2

namespace L2
open PySem PySem.Spec PyProof.Rows

theorem ns_some_of {K : PySem.W.Frag} {h : Heap} {N : Addr} {mg : Str → Option Value} {n : Str} {v : Value} (X : K.In h) (G : h.Ns N mg) (e : PySem.W.nsIn K N n = some (some v)) : mg n = some v := by
  obtain ⟨o, es, ep, ho, hd, _, hf⟩ := G
  unfold PySem.W.nsIn at e
  split at e
  · rename_i c d es' n' sl q
    have z := X _ _ q
    rw [ho] at z
    cases z
    cases hd
    split at e
    · rename_i en he
      cases e
      rw [← hf]
      unfold nsFind findBy
      rw [← Array.find?_toList, he]
      rfl
    · split at e
      · cases e
      · cases e
  · cases e

structure StopC (K : PySem.W.Frag) (mg : Str → Option Value) (x : Str) (C fI : Addr) (a : Str) : Prop where
  bound : mg x = some (.ref C)
  obj : ∃ nm q N bs sn sub ab col dd k0 k1 k2 k3 k5, K.lookup C = some (excClassObj nm q C N bs bmE true sn sub ab col dd k0 k1 k2 k3 k5 "Exception.__new__") ∧ PySem.W.nsOkIn K N = true ∧ PySem.W.nsIn K N "__init__" = some (some (.ref fI)) ∧
    PySem.W.nsIn K N "__setattr__" = some none ∧ PySem.W.nsIn K N "__getattribute__" = some none ∧ PySem.W.nsIn K N "__getattr__" = some none ∧ PySem.W.nsIn K N a = some none
  fn : PySem.W.typeIn K (.ref fI) = some (.type "function")
  lk : typeLookup (.type "Exception") a = pure none

noncomputable def ExcN (e C : Addr) : HO := .ext fun h => ∃ vs, h.get? e = some { cls := .ref C, data := .fields vs } ∧ vs[1]? = some .none
noncomputable def ExcD (e C dx : Addr) : HO := .ext fun h => ∃ vs, h.get? e = some { cls := .ref C, dict := some dx, data := .fields vs } ∧ vs[1]? = some .none

section
variable {X : Cx} {x a : Str} {C fI : Addr} {o value : Expr} {pos pos' : Pos} {ta tv : TE} {mg : Str → Option Value}
noncomputable def sXset (C : Addr) (a : Str) (ta tv : TE) : TS := fun D σ H => tv σ H fun y H1 => ta σ H1 fun x H2 => ∃ e, x = .ref e ∧ H2 e = some (ExcN e C) ∧ ∀ dx, H2 dx = none → D.nx σ (upd (upd H2 dx (.xd [(a, y)])) e (ExcD e C dx))
theorem ps_xset (S : StopC X.K mg x C fI a) (ha : PE X o ta) (hv : PE X value tv) (hs : swapsWith value (some (.Attribute o a pos')) pos.line X.env = pure false) :
    PS X (.Assign [.Attribute o a pos'] value pos) (sXset C a ta tv) := by
  intro pins s σ H D I h
  refine plainObj_wpAny_Assign_Attribute (thn (hv pins s σ H _ I h) fun u s1 ⟨y, H1, I1, ry, h1⟩ => thn (ha pins s1 σ H1 _ I1 h1) fun ov s2 ⟨xv, H2, I2, rx, e, ex, he, q⟩ => ?_) hs
  subst ex
  obtain rfl : ov = Value.ref e := rx
  obtain ⟨nm, qn, N, bs, sn, sub, ab, col, dd, k0, k1, k2, k3, k5, hl, hok, hi, n1, n2, n3, n4⟩ := S.obj
  obtain ⟨⟨vs, hoe, h1v⟩, _, _⟩ := I2.hok e _ he
  have KI := I2.kIn
  have fresh : H2 s2.heap.objs.size = none := I2.hok.fresh (Nat.le_refl _)
  have hq := q s2.heap.objs.size fresh
  have ne : e ≠ s2.heap.objs.size := Nat.ne_of_lt (Heap.lt_size hoe)
  have hn : s2.heap.Ns N (s2.heap.nsMap N) := .of_isNs (PySem.W.isNs_of_in KI hok)
  have m1 := PySem.W.nsMap_none_of_in KI hok n1
  have m4 := PySem.W.nsMap_none_of_in KI hok n4
  have hC := KI _ _ hl
  have fin : ∀ (h' : Heap) (tk : Nat), h'.get? e = some { cls := .ref C, dict := some s2.heap.objs.size, data := .fields vs } → h'.Ns1 s2.heap.objs.size (fun y' => if y' = a then some u else none) → (∀ b ob, b ≠ e → s2.heap.get? b = some ob → h'.get? b = some ob) →
      Inv X pins σ (upd (upd H2 s2.heap.objs.size (.xd [(a, y)])) e (ExcD e C s2.heap.objs.size)) { s2 with heap := h', toks := tk } := fun h' tk g1 g2 g3 => by
    have nd : ∀ b v, H2 b = some v → b ≠ s2.heap.objs.size := fun b v z w => by
      rw [w, fresh] at z
      cases z
    have nx : ∀ b v, H2 b = some v → (∀ ψ, v ≠ .ext ψ) → b ≠ e := fun b v z nu w => by
      rw [w, he] at z
      cases z
      exact nu _ rfl
    have n0 : ∀ b, H2 b = none → b ≠ e := fun b z w => by
      rw [w, he] at z
      cases z
    refine I2.un (Un.mk (fun b ob z n _ _ => g3 b ob (n0 b n) z) (fun b ob z n _ _ => ⟨ob.slots, g3 b ob (n0 b n) z⟩) (fun b ob z n _ => ?_) (fun b ob z _ => ?_) (fun b xs z => ?_) (fun b ob v z => ?_) fun b ps z => ?_) fun b v z => ?_
    · rw [upd_ne (n0 b n), upd_ne (Nat.ne_of_lt (Heap.lt_size z))]
      exact n
    · by_cases hb : b = e
      · subst hb
        exact ⟨_, g1⟩
      · exact ⟨ob, g3 b ob hb z⟩
    · rw [upd_ne (nx b _ z fun ψ w => by cases w), upd_ne (nd b _ z)]
      exact z
    · rw [upd_ne (nx b _ z fun ψ w => by cases w), upd_ne (nd b _ z)]
      exact z
    · exact ⟨#[], by rw [upd_ne (nx b _ z fun ψ w => by cases w), upd_ne (nd b _ z), z]; simp⟩
    · by_cases hb : b = e
      · subst hb
        rw [upd_same] at z
        cases z
        exact ⟨⟨vs, g1, h1v⟩, ⟨_, g1⟩, fun a1 a2 ⟨ws, w1, w2⟩ w => ⟨ws, w _ w1, w2⟩⟩
      · rw [upd_ne hb] at z
        by_cases hb2 : b = s2.heap.objs.size
        · subst hb2
          rw [upd_same] at z
          cases z
          refine ⟨_, g2, fun f => ?_⟩
          by_cases hf : f = a
          · subst hf
            show RelO (List.lookup f [(f, y)]) (if f = f then some u else none)
            rw [if_pos rfl, List.lookup_cons]
            simp only [beq_self_eq_true]
            exact ry
          · show RelO (List.lookup f [(a, y)]) (if f = a then some u else none)
            rw [if_neg hf, List.lookup_cons, show (f == a) = false by simpa using hf]
            exact True.intro
        · rw [upd_ne hb2] at z
          refine (I2.hok b v z).stay (fun c w hc y' => g3 c w ?_ y') (fun c w => ?_) fun c xs w => ?_
          · rcases hc with rfl | hc
            · exact hb
            · exact nx c _ hc fun ψ w => by cases w
          · rw [upd_ne (nx c _ w fun ψ w => by cases w), upd_ne (nd c _ w)]
            exact w
          · rw [upd_ne (nx c _ w fun ψ w => by cases w), upd_ne (nd c _ w)]
            exact w
  obtain ⟨hp, g, d, t, os⟩ := s2
  exact sav_exc (vs := vs) hC hn m1 m4 S.lk hoe rfl rfl rfl fun h' tk g1 g2 g3 => ⟨σ, _, fin h' tk g1 g2 g3, hq⟩

noncomputable def tXfld (C : Addr) (a : Str) (ta : TE) : TE := fun σ H Q => ta σ H fun x H1 => ∃ e dx fs v, x = .ref e ∧ H1 e = some (ExcC e (.ref C) (some dx)) ∧ e ≠ dx ∧ H1 dx = some (.xd fs) ∧ fs.lookup a = some v ∧ Q v H1
theorem pe_xfld (S : StopC X.K mg x C fI a) (ha : PE X o ta) (hb : attributeBase o a X.env (eval o X.env) = eval o X.env) : PE X (.Attribute o a pos) (tXfld C a ta) := by
  intro pins s σ H Q I h
  refine attr_of hb (thn (ha pins s σ H _ I h) fun u s1 ⟨xv, H1, I1, rx, e, dx, fs, v, ex, he, ned, hdx, hl, q⟩ => ?_)
  subst ex
  obtain rfl : u = Value.ref e := rx
  obtain ⟨nm, qn, N, bs, sn, sub, ab, col, dd, k0, k1, k2, k3, k5, hlC, hok, hi, n1, n2, n3, n4⟩ := S.obj
  obtain ⟨⟨oe, vs, hoe, hcl, hde, hdt⟩, _, _⟩ := I1.hok e _ he
  obtain ⟨mA, hns, rel⟩ := I1.hok dx _ hdx
  have ra := rel a
  rw [hl] at ra
  obtain ⟨uv, huv, rv⟩ := RelO.some_of ra
  have KI := I1.kIn
  have hn : s1.heap.Ns N (s1.heap.nsMap N) := .of_isNs (PySem.W.isNs_of_in KI hok)
  have m2 := PySem.W.nsMap_none_of_in KI hok n2
  have m3 := PySem.W.nsMap_none_of_in KI hok n3
  have m4 := PySem.W.nsMap_none_of_in KI hok n4
  have hC := KI _ _ hlC
  have inst : s1.heap.Inst e C mA := ⟨oe, hoe, hcl, (fun c z => by rw [hdt] at z; cases z), .inr ⟨dx, hde, Ne.symm ned, hns⟩⟩
  have fin : EP X pins σ Q uv { s1 with toks := s1.toks + 1 } := ⟨v, H1, I1.tok _, rv, q⟩
  obtain ⟨hp, g, d, t, os⟩ := s1
  exact load_exc hC hn m2 m3 m4 S.lk inst huv (PySem.W.handedOut_of (handed_of rv)) fin
end
end L2

set_option maxHeartbeats 1000000
namespace L2
open PySem PySem.Spec PyProof.Rows

section
variable {M : Model} {A : Around} {E : Value → Shared → Prop} {env : Env}
variable {nm q : Str} {C N : Addr} {bs bm : List Value} {hdct : Bool} {sn : List Str} {sub : List Value} {ab : Bool} {col : Option Bool} {dd : Option Addr} {k0 k1 k2 k3 k5 : Option Value} {newId : String}
theorem raise_x {s : Shared} {x : Sem Value} {Q : Flow → Shared → Prop} (hbase : bm.contains (.type "BaseException") = true) (hh : A.handled = none)
    (h : wpAny M A x (fun v s1 => ∃ e oe, v = .ref e ∧ s1.heap.get? C = some (excClassObj nm q C N bs bm hdct sn sub ab col dd k0 k1 k2 k3 k5 newId) ∧ s1.heap.get? e = some oe ∧ oe.cls = .ref C ∧ (∃ vs, oe.data = .fields vs ∧ vs[1]? = some .none) ∧ E (.ref e) s1) E s) :
    wpAny M A (raiseStmt env (some x) none) Q E s := by
  have hcB : (Value.ref C :: bm).contains (.type "BaseException") = true := by rw [List.contains_cons, hbase, Bool.or_true]
  unfold raiseStmt
  refine wpAny_bind (thn h fun v s1 h1 => ?_)
  obtain ⟨e, oe, rfl, hC, he, hcl, ⟨vs, hdt, h1v⟩, hE⟩ := h1
  obtain ⟨hp, g, d, tk, os⟩ := s1
  repeat (first | (with_reducible refine wpAny_loadPart_at he ?_; first | rw [hcl] | rw [hdt]) | with_reducible refine wpAny_loadPart_at hC ?_ | (with_reducible refine wpAny_isSubtype_exc hC ?_; rw [hcB]) | wp_step)
  rw [hdt]
  refine wpAny_pure ?_
  rw [h1v]
  refine wpAny_pure ?_
  rw [if_neg (by decide)]
  exact wpAny_pure (wpAny_raiseNew_none hh hE)
end

noncomputable def Flies (X : Cx) (E : XK) : Prop := ∀ (pins : List (Addr × Obj)) (σ : St) (H : Hp) (s : Shared) (e : Addr) (oe : Obj) (vs : Array Value), Inv X pins σ H s → s.heap.get? e = some oe → oe.data = .fields vs → vs[1]? = some .none → X.s₀.heap.get? e = none → H e = none → E oe.cls oe.dict H → X.xe (.ref e) s
section
variable {P : Program} {w : World} {K : PySem.W.Frag} {mg : Str → Option Value} {base : Heap} {N : List Str} {qual : Str} {scope : Scope} {f : Addr} {cd : Value} {A : Around} {outer : List Env} {s₀ : Shared} {H₀ : Hp} {E : XK}
theorem flies1 : Flies (cx1 P w K mg base N qual scope f cd A outer s₀ H₀ E) E := fun pins σ H s e oe vs I he hd h1 hn hH q => xe_made I he hd h1 hn hH q
end

section
variable {X : Cx} {x a : Str} {C fI : Addr} {np cpos pos : Pos} {E : XK} {e₀ : Expr} {rest : List Expr} {t : TA} {k : Nat} {fd : FuncData} {ps : List Str} {sp : Sp}
noncomputable def tRaiseI (C : Addr) (sp : Sp) (E : XK) (t : TA) : TS := fun _ σ H => t σ H fun vs H1 => vs.length ≤ sizeLine ∧ ∀ e, H1 e = none → sp (.ref e :: vs) (upd H1 e (ExcN e C)) (fun v H2 => v = .non ∧ ∃ dx, H2 e = some (ExcD e C dx) ∧ E (.ref C) (some dx) (drop H2 e)) E0
theorem ps_raiseI (S : StopC X.K X.mg x C fI a) (hg : Gl X x) (hc : X.calm = true) (hex : X.ex = []) (hx : Flies X E) (F : FnOk X.prog X.w X.K X.mg X.base (CX1 X.prog X.w) k fI fd ps sp) (hr : Room (k + 1) X.A) (hb : Binds X.K fd ps []) (ha : PA X (e₀ :: rest) t)
    (he : starEach (e₀ :: rest) X.env = (false, eval e₀ X.env) :: starEach rest X.env := by rfl) (hpl : (backTo cpos (starEach rest X.env)).any (·.1) = false := by rfl) (hd : (x == ("__debug__" : Str)) = false := by decide) :
    PS X (.Raise (some (.Call (.Name x np) (e₀ :: rest) [] cpos)) none pos) (tRaiseI C sp E t) := by
  intro pins s σ H D I h
  obtain ⟨nm, qn, N, bs, sn, sub, ab, col, dd, k0, k1, k2, k3, k5, hlC, hok, hi, n1, n2, n3, n4⟩ := S.obj
  have hplain : (backTo cpos (starEach (e₀ :: rest) X.env)).any (·.1) = false := by rw [he]; exact hpl
  rw [arm_exec_Raise]
  refine wpAny_bind (wpAny_standAt (raise_x (C := C) (nm := nm) (q := qn) (N := N) (bs := bs) (bm := bmE) (hdct := true) (sn := sn) (sub := sub) (ab := ab) (col := col) (dd := dd) (k0 := k0) (k1 := k1) (k2 := k2) (k3 := k3) (k5 := k5) (newId := "Exception.__new__") (by decide) (I.ok.hd hc) ?_))
  refine wpAny_bind (thn (wpAny_Call_ofName (ld_glob I hg S.bound ?_ hd)) fun v s3 h3 => wpAny_bind (wpAny_standAt (wpAny_pure h3)))
  unfold callWith
  have hp := ha cpos pins s σ H _ I h
  rw [he] at hp ⊢
  refine wpAny_bind (wpAny_holding (Calls.evalArgs_plain (thn hp fun us s2 ⟨vs, H1, I1, r1, z, hE⟩ => wpAny_bind (wpAny_standAt ?_))))
  have KI := I1.kIn
  have hC := KI _ _ hlC
  have hn : s2.heap.Ns N (s2.heap.nsMap N) := .of_isNs (PySem.W.isNs_of_in KI hok)
  have mi := ns_some_of KI hn hi
  obtain ⟨oI, hoI, hfc⟩ := Option.map_eq_some_iff.mp S.fn
  have hzu : us.length ≤ sizeLine := by rw [← r1.length]; exact z
  have hfold : (backTo cpos ((false, eval e₀ X.env) :: starEach rest X.env)).any (·.1) = false := by rw [he] at hplain; exact hplain
  have main : ∀ h' e, Heap.MadeExcOf s2.heap h' e (.ref C) us → wpAny (model X.prog X.w) (X.A.under (.builtin "type.__call__" ⟨.ref C :: us, []⟩)) (call (.ref fI) (.ref e :: us))
      (fun r s' => r = .none ∧ ∃ e' oe, Value.ref e = .ref e' ∧ s'.heap.get? C = some (excClassObj nm qn C N bs bmE true sn sub ab col dd k0 k1 k2 k3 k5 "Exception.__new__") ∧ s'.heap.get? e' = some oe ∧ oe.cls = .ref C ∧ (∃ vs, oe.data = .fields vs ∧ vs[1]? = some .none) ∧ X.xe (.ref e') s') X.xe { s2 with heap := h' } := fun h' e Md => by
    obtain ⟨tt, he', _, _⟩ := Md.there
    have I2 : Inv X pins σ H1 { s2 with heap := h' } := I1.kept (t' := s2.toks) Md.keeps
    have ap := I1.apart hex Md.new
    have hHe : H1 e = none := I1.hok.new Md.new
    have I3 : Inv X pins σ (upd H1 e (ExcN e C)) { s2 with heap := h' } := I2.track ap hHe ⟨_, he'⟩ ⟨_, he', rfl⟩ fun g1 g2 ⟨ws, w1, w2⟩ w => ⟨ws, w _ w1, w2⟩
    have hq := hE e hHe
    have r2 : Vals (V.ref e :: vs) (Value.ref e :: us) := .cons rfl r1
    have hl : (Value.ref e :: us ++ []).length = ps.length := by
      have l1 := r2.length
      rw [F.len _ _ _ _ hq] at l1
      simpa using l1.symm
    have hbb := hb { s2 with heap := h' } (Value.ref e :: us) I3.kIn hl
    rw [List.append_nil] at hbb
    refine wpAny_call (codeAny_mono (F.run _ X.stack _ _ ⟨Value.ref e :: us, []⟩ (Value.ref e :: us) _ _ E0 (hr.make C us []) (I3.env0.make C us []) hbb r2 hq) fun r s' hq' => ?_)
    cases r with
    | error ev =>
      obtain ⟨_, _, _, _, _, _, _, _, _, _, _, _, _, _, _, ff⟩ := hq'
      exact ff.elim
    | ok fl =>
      cases fl with
      | ret u =>
        obtain ⟨v, H', I4, rv, ev, dx, hD, hE'⟩ := I3.after hq'
        subst ev
        obtain ⟨⟨ws, w1, w2⟩, _, _⟩ := I4.hok e _ hD
        refine ⟨rv, e, _, rfl, I4.kIn _ _ hlC, w1, rfl, ⟨_, rfl, w2⟩, ?_⟩
        exact hx pins σ (drop H' e) s' e _ ws (I4.untrack hD) w1 rfl w2 ap.old drop_same hE'
      | next => exact False.elim hq'
      | brk => exact False.elim hq'
      | cont => exact False.elim hq'
  obtain ⟨hp2, g, d, tk, os⟩ := s2
  simp only [hfold]
  refine wpAny_bind (wpAny_keeperOf_exc hC ?_)
  refine wpAny_bind (wpAny_call_exc_init (hrest := hzu) PySem.F.excBase_Exception hC hn mi (KI _ _ hoI) hfc fun h' e Md => ?_)
  refine thn (main h' e Md) fun r s' ⟨e1, e2⟩ => ⟨e1, wpAny_bind (wpAny_holding (wpAny_point (wpAny_pure e2)))⟩
end
end L2

set_option maxHeartbeats 1000000
namespace L2
open PySem PySem.Spec PyProof.Rows

theorem list_keys_miss : typeLookup (.type "list") "keys" = pure none := by rw [typeLookup_type, builtinLookup_eq_fast]; kernel_rfl
theorem entry_uloop : entryFor table "dict.update.loop" = some Builtin.«dict.update.loop» := entryFor_of_tree (by kernel_rfl)

theorem no_keys {prog : Program} {w : World} {A : Around} {E : Value → Shared → Prop} {s : Shared} {a : Addr} {xs : Array Value} {k : Nat} {sl : Array (Option Value)} {Q : Option Value → Shared → Prop}
    (hx : s.heap.get? a = some { cls := .type "list", dict := none, data := .seq xs k, slots := sl }) (hA : A.handled = none)
    (h : ∀ h' tk, (∀ b o, s.heap.get? b = some o → h'.get? b = some o) → Q none { s with heap := h', toks := tk }) : wpAny (model prog w) A (getAttr? (.ref a) "keys") Q E s := by
  obtain ⟨hp, g, d, tk, os⟩ := s
  have hT : ∀ tk', (⟨hp, g, d, tk', os⟩ : Shared).TypeIs (.ref a) "list" := fun _ => ⟨_, hx, rfl⟩
  have f1 := sub_AttributeError
  have f3 := PySem.F.slot_list_getattribute.lookup
  have f4 := PySem.F.slot_list_getattribute.bind (.ref a)
  have f5 := am_list_getattr_none
  unfold getAttr? getAttrBy? getAttrBy
  repeat (any_goals (first | assumption | exact hT _ | ((with_reducible show wpAny _ _ (call (Value.builtin "list.__getattribute__") _ _) _ _ _); refine call_meets PySem.F.slot_list_getattribute (hT _) am_entry_list_getattribute (PySem.F.args_list_getattribute_2 _ _) (meets_getattribute_miss_list a xs k sl "keys" _ list_keys_miss (by decide)) ⟨hx, hA, fun h' tk' e hx' => ?_⟩) | wp_step))
  obtain ⟨t', u', he⟩ := hx'.there
  show wpAny _ _ (getattributeRaised _ _ _ _ _ _ _) _ _ _
  unfold getattributeRaised
  repeat (any_goals (first | assumption | wp_step))
  exact h _ _ hx'.of.keeps
end L2

set_option maxHeartbeats 1000000
namespace L2
open PySem PySem.Spec PyProof.Rows
section
variable {prog : Program} {w : World} {K : Type} [DecidableEq K] {knd : KeyKind prog w K} {A : Around}
noncomputable def putAll (kvs : List (K × Value)) : List (K × Value) → List (K × Value)
  | [] => kvs
  | p :: r => putAll (stored kvs p.1 p.2) r

theorem len_stored (kvs : List (K × Value)) (k : K) (v : Value) : (stored kvs k v).length ≤ kvs.length + 1 := by
  unfold stored
  split
  · rw [List.length_map]; (first | lia | omega)
  · rw [List.length_append, List.length_singleton]; (first | lia | omega)

theorem upd_loop {l it d : Addr} (hA : A.handled = none) (hA1 : A.in1.handled = none) : ∀ (ps : List (K × Value)) (i : Nat) (s : Shared) (t : Tok) (kvs : List (K × Value)) (items : Array Value) (R : Result → Shared → Prop), s.heap.IsListIter it l i → s.heap.IsList l items → it ≠ d → l ≠ d → l ≠ it →
    items.size = i + ps.length → (∀ (j : Nat) (p : K × Value), ps[j]? = some p → ∃ (b : Addr) (key : Value), items[i + j]? = some (.ref b) ∧ b ≠ d ∧ b ≠ it ∧ knd.is p.1 key = true ∧ ∃ n sl dd, s.heap.get? b = some { cls := .type "tuple", dict := dd, data := .seq #[key, p.2] n, slots := sl }) →
    s.heap.DictOf knd d kvs → kvs.length + ps.length ≤ sizeLine →
    (∀ h' tk, h'.DictOf knd d (putAll kvs ps) → (∀ b o, b ≠ d → b ≠ it → s.heap.get? b = some o → h'.get? b = some o) → R (.ok (.ret .none)) { s with heap := h', toks := tk }) →
    codeAny (model prog w) A (.builtin "dict.update.loop" ⟨[.ref d, .ref it, .int i t, .none], []⟩) R s
  | [], i, s, t, kvs, items, R, hit, hl, n1, n2, n3, hsz, hp, hd, hz, hR => by
    refine codeAny_builtin entry_uloop ?_
    unfold Builtin.«dict.update.loop»
    dsimp only
    refine wpAny_bind (wpAny_pyNext_list_end hA hit hl (Array.getElem?_eq_none (by rw [hsz]; simp)) fun h' eb => ?_)
    show wpAny _ _ (Builtin.Dict.addKeywords d [] >>= _) _ _ _
    refine wpAny_bind (wpAny_pure (wpAny_pure ?_))
    exact hR h' s.toks (let ⟨o, es, ep, ho, r⟩ := hd; ⟨o, es, ep, eb d o (Ne.symm n1) ho, r⟩) fun b o _ h2 e => eb b o h2 e
  | p :: ps, i, s, t, kvs, items, R, hit, hl, n1, n2, n3, hsz, hp, hd, hz, hR => by
    obtain ⟨b, key, hi, b1, b2, hk, n, sl, dd, hb⟩ := hp 0 p rfl
    refine codeAny_builtin entry_uloop ?_
    unfold Builtin.«dict.update.loop»
    dsimp only
    refine wpAny_bind (wpAny_pyNext_list_item hit hl (x := .ref b) hi fun h' hit' hs => ?_)
    dsimp only
    have hb' : h'.get? b = some { cls := .type "tuple", dict := dd, data := .seq #[key, p.2] n, slots := sl } := (hs.2 b b2).trans hb
    refine wpAny_bind (wpAny_holding (wpAny_bind ?_))
    have hT : ({ s with heap := h' } : Shared).TypeIs (.ref b) "tuple" := ⟨_, hb', rfl⟩
    refine wpAny_tryCatch (wpAny_bind (wpAny_typeOf hT ?_))
    rw [if_pos (by decide)]
    refine wpAny_bind (wpAny_bind (wpAny_load hb' (wpAny_pure ?_)))
    refine wpAny_pure ?_
    show wpAny _ _ (holding [key, p.2] (dictSet d key p.2)) _ _ _
    have hd' : h'.DictOf knd d kvs := let ⟨o, es, ep, ho, r⟩ := hd; ⟨o, es, ep, (hs.2 d (Ne.symm n1)).trans ho, r⟩
    refine wpAny_holding (wpAny_dictSet_pairs (s := { s with heap := h' }) hk hd' (fun h2 hd2 hs2 => ?_) (by rw [List.length_cons] at hz; (first | lia | omega)))
    refine wpAny_pure ⟨Code.quiet_builtin _ (by decide +kernel), ?_⟩
    have keep : ∀ c o, c ≠ d → c ≠ it → s.heap.get? c = some o → h2.get? c = some o := fun c o c1 c2 e => (hs2.2 c c1).trans ((hs.2 c c2).trans e)
    have ls := len_stored kvs p.1 p.2
    refine upd_loop hA hA1 ps (i + 1) { s with heap := h2, toks := s.toks + 1 } _ (stored kvs p.1 p.2) items R ?_ ?_ n1 n2 n3 (by rw [hsz, List.length_cons]; (first | lia | omega)) (fun j q e => ?_) hd2 (by rw [List.length_cons] at hz; (first | lia | omega)) fun h3 tk hd3 k3 => hR h3 tk hd3 fun c o c1 c2 e => k3 c o c1 c2 (keep c o c1 c2 e)
    · exact hit'.at fun o e => (hs2.2 it n1).trans e
    · obtain ⟨o, ho, r⟩ := hl
      exact ⟨o, keep l o n2 n3 ho, r⟩
    · obtain ⟨b', key', x1, x2, x3, x4, n', sl', dd', x5⟩ := hp (j + 1) q (by simpa using e)
      exact ⟨b', key', by rw [show i + 1 + j = i + (j + 1) by (first | lia | omega)]; exact x1, x2, x3, x4, n', sl', dd', keep b' _ x2 x3 x5⟩

theorem call_dict_pairs {E : Value → Shared → Prop} {s : Shared} {l : Addr} {items : Array Value} {n : Nat} {sl : Array (Option Value)} {Q : Value → Shared → Prop} (hA : A.handled = none) (ps : List (K × Value)) (hl : s.heap.get? l = some { cls := .type "list", dict := none, data := .seq items n, slots := sl })
    (hsz : items.size = ps.length) (hp : ∀ (j : Nat) (p : K × Value), ps[j]? = some p → ∃ (b : Addr) (key : Value), items[j]? = some (.ref b) ∧ knd.is p.1 key = true ∧ ∃ n sl dd, s.heap.get? b = some { cls := .type "tuple", dict := dd, data := .seq #[key, p.2] n, slots := sl })
    (hz : ps.length ≤ sizeLine)
    (h : ∀ h' tk d, s.heap.objs.size ≤ d → h'.DictOf knd d (putAll [] ps) → (∀ b o, s.heap.get? b = some o → h'.get? b = some o) → Q (.ref d) { s with heap := h', toks := tk }) : wpAny (model prog w) A (call (.type "dict") [.ref l]) Q E s := by
  refine callType_codes (Q₁ := fun obj s₁ => obj = .ref s.heap.objs.size ∧ s₁ = { s with heap := s.heap.push { cls := .type "dict", data := .dict #[] } }) PySem.F.kt_called_dict (PySem.F.kt_typeCall_dict_1 _) PySem.F.entry_dict_init (kt_code_dict_new _ ⟨rfl, rfl⟩) ?_
  rintro obj s₁ ⟨rfl, rfl⟩
  have hnew : (s.heap.push { cls := .type "dict", data := .dict #[] }).DictOf knd s.heap.objs.size [] := Heap.DictOf.new s.heap
  have hl1 := Heap.get?_push_of_some { cls := .type "dict", data := .dict #[] } hl
  refine ⟨hnew.typeIs, PySem.F.args_dict_init_2 _ _, ?_⟩
  unfold Builtin.«dict.__init__»
  refine wpAny_bind ?_
  unfold Builtin.Dict.selfAndRest
  refine wpAny_bind (wpAny_notOrdered_dict hnew.typeIs ?_)
  show wpAny _ _ (pure (s.heap.objs.size, [Value.ref l])) _ _ _
  refine wpAny_pure ?_
  show wpAny _ _ (Builtin.Dict.updateFrom "dict.__init__" s.heap.objs.size (.ref l) [] .none) _ _ _
  unfold Builtin.Dict.updateFrom
  refine wpAny_bind (wpAny_typeOf (T := "list") ⟨_, hl1, rfl⟩ ?_)
  rw [if_pos (by decide)]
  refine wpAny_bind (no_keys hl1 hA fun h' tk kp => ?_)
  rw [if_pos (by decide)]
  refine wpAny_bind (wpAny_rule (wpAny_bind ?_))
  have hl2 : h'.IsList l items := ⟨_, kp _ _ hl1, rfl, n, rfl⟩
  refine wpAny_pyIter_list hl2 ?_
  refine wpAny_pure ⟨Code.quiet_builtin _ (by decide +kernel), ?_⟩
  have dlt : s.heap.objs.size < h'.objs.size := by
    obtain ⟨o, _, _, ho, _⟩ := hnew
    exact Heap.lt_size (kp _ _ ho)
  have up : ∀ b o, s.heap.get? b = some o → (h'.push { cls := .type "list_iterator", data := .fields #[.ref l, .int 0 0] }).get? b = some o := fun b o e => Heap.get?_push_of_some _ (kp _ _ (Heap.get?_push_of_some _ e))
  have ne : ∀ b o, s.heap.get? b = some o → b ≠ s.heap.objs.size ∧ b ≠ h'.objs.size := fun b o e => ⟨Nat.ne_of_lt (Heap.lt_size e), Nat.ne_of_lt (Nat.lt_trans (Heap.lt_size e) dlt)⟩
  refine upd_loop (knd := knd) (l := l) (it := h'.objs.size) (d := s.heap.objs.size) (A := A.in1) hA hA ps 0 { s with heap := h'.push { cls := .type "list_iterator", data := .fields #[.ref l, .int 0 0] }, toks := tk } _ [] items _ ?_ ?_ (Nat.ne_of_gt dlt) (ne l _ hl).1 (ne l _ hl).2 (by rw [hsz]; simp) (fun j p e => ?_) ?_ (by simpa using hz) fun h3 tk3 hd3 k3 => ?_
  · exact ⟨_, Heap.get?_push_size _ rfl, rfl, rfl⟩
  · exact ⟨_, up _ _ hl, rfl, n, rfl⟩
  · obtain ⟨b, key, x1, x2, n', sl', dd', x3⟩ := hp j p e
    exact ⟨b, key, by rw [Nat.zero_add]; exact x1, (ne b _ x3).1, (ne b _ x3).2, x2, n', sl', dd', up _ _ x3⟩
  · obtain ⟨o, es, ep, ho, r⟩ := hnew
    exact ⟨o, es, ep, Heap.get?_push_of_some _ (kp _ _ ho), r⟩
  · exact ⟨rfl, h h3 tk3 _ (Nat.le_refl _) hd3 fun b o e => k3 b o (ne b o e).1 (ne b o e).2 (up b o e)⟩
end
end L2

set_option maxHeartbeats 1000000
namespace L2
open PySem PySem.Spec PyProof.Rows

noncomputable def putAllK (kvs : List (Key × V)) : List (Key × V) → List (Key × V)
  | [] => kvs
  | p :: r => putAllK (putK kvs p.1 p.2) r
theorem KV.putAll : ∀ {ps : List (Key × V)} {qs : List (Key × Value)} {kvs : List (Key × V)} {vs : List (Key × Value)}, KV ps qs → KV kvs vs → KV (putAllK kvs ps) (L2.putAll vs qs)
  | _, _, _, _, .nil, r => r
  | _, _, _, _, .cons h t, r => by
    rw [putAllK, L2.putAll, ← h.1]
    exact KV.putAll t (r.put _ h.2)
theorem len_putAllK : ∀ (ps kvs : List (Key × V)), (putAllK kvs ps).length ≤ kvs.length + ps.length
  | [], kvs => by simp [putAllK]
  | p :: r, kvs => by
    have h1 := len_putAllK r (putK kvs p.1 p.2)
    have h2 := length_putK kvs p.1 p.2
    rw [putAllK, List.length_cons]
    (first | lia | omega)
section
variable {X : Cx}
noncomputable def rDictL (xs : List V) (H : Hp) (Q : VK) : Prop := ∃ (l : Addr) (ts : List (Addr × Key × V)), xs = [.ref l] ∧ H l = some (.lst (ts.map fun t => .ref t.1)) ∧ (∀ t ∈ ts, H t.1 = some (.tup [kV t.2.1, t.2.2])) ∧ ∀ d, H d = none → Q (.ref d) (upd H d (.dK (putAllK [] (ts.map (·.2)))))
theorem kV_key {k : Key} {v : Value} (r : RelV (kV k) v) : keyIs k v = true := by
  cases k with
  | inl i => obtain ⟨t, rfl⟩ := r; exact keyIs_int i t
  | inr x => obtain ⟨t, rfl⟩ := r; exact keyIs_str x t
theorem call_dict_l (hc : X.calm = true) : CallR X (.type "dict") rDictL := by
  intro pins s σ H xs us Q I r h
  obtain ⟨l, ts, rfl, hl, ht, q⟩ := h
  obtain ⟨u, rfl, ru⟩ := vals1 r
  cases ru
  obtain ⟨z, its, n, rv, e⟩ := I.hok l _ hl
  have hlen : its.length = ts.length := by rw [← rv.length, List.length_map]
  have get : ∀ (j : Nat) (t : Addr × Key × V), ts[j]? = some t → its[j]? = some (.ref t.1) ∧ ∃ key val, RelV (kV t.2.1) key ∧ RelV t.2.2 val ∧ ∃ n sl dd, s.heap.get? t.1 = some { cls := .type "tuple", dict := dd, data := .seq #[key, val] n, slots := sl } := fun j t ej => by
    obtain ⟨w, hw, rw'⟩ := rv.get (i := j) (x := .ref t.1) (by rw [List.getElem?_map, ej]; rfl)
    cases rw'
    refine ⟨hw, ?_⟩
    obtain ⟨z2, its2, r2, o2, h2, c2, n2, d2⟩ := I.hok t.1 _ (ht t (List.mem_of_getElem? ej))
    obtain ⟨a1, a2, e2, ra1, ra2⟩ : ∃ a1 a2, its2 = [a1, a2] ∧ RelV (kV t.2.1) a1 ∧ RelV t.2.2 a2 := by
      cases r2 with
      | cons p1 q1 =>
        cases q1 with
        | cons p2 q2 =>
          cases q2
          exact ⟨_, _, rfl, p1, p2⟩
    subst e2
    obtain ⟨oc, od, odt, osl⟩ := o2
    dsimp only at c2 d2
    subst c2 d2
    exact ⟨a1, a2, ra1, ra2, n2, osl, od, h2⟩
  obtain ⟨qs, hqs, hq2⟩ : ∃ qs : List (Key × Value), KV (ts.map (·.2)) qs ∧ ∀ (j : Nat) (p : Key × Value), qs[j]? = some p → ∃ (b : Addr) (key : Value), its.toArray[j]? = some (.ref b) ∧ (mixKind X.prog X.w).is p.1 key = true ∧ ∃ n sl dd, s.heap.get? b = some { cls := .type "tuple", dict := dd, data := .seq #[key, p.2] n, slots := sl } := by
    have gen : ∀ (k : Nat) (ts : List (Addr × Key × V)), (∀ (j : Nat) (t : Addr × Key × V), ts[j]? = some t → its[k + j]? = some (.ref t.1) ∧ ∃ key val, RelV (kV t.2.1) key ∧ RelV t.2.2 val ∧ ∃ n sl dd, s.heap.get? t.1 = some { cls := .type "tuple", dict := dd, data := .seq #[key, val] n, slots := sl }) →
        ∃ qs : List (Key × Value), KV (ts.map (·.2)) qs ∧ ∀ (j : Nat) (p : Key × Value), qs[j]? = some p → ∃ (b : Addr) (key : Value), its.toArray[k + j]? = some (.ref b) ∧ (mixKind X.prog X.w).is p.1 key = true ∧ ∃ n sl dd, s.heap.get? b = some { cls := .type "tuple", dict := dd, data := .seq #[key, p.2] n, slots := sl } := by
      intro k ts
      induction ts generalizing k with
      | nil => intro _; exact ⟨[], .nil, fun j p e => by simp at e⟩
      | cons t r ih =>
        intro hh
        obtain ⟨h1, key, val, r1, r2, n', sl', dd', h2⟩ := hh 0 t rfl
        obtain ⟨qs, a1, a2⟩ := ih (k + 1) fun j t' e => by
          have z := hh (j + 1) t' (by simpa using e)
          rw [show k + (j + 1) = k + 1 + j by (first | lia | omega)] at z
          exact z
        refine ⟨(t.2.1, val) :: qs, .cons ⟨rfl, r2⟩ a1, fun j p e => ?_⟩
        cases j with
        | zero =>
          simp at e
          subst e
          exact ⟨t.1, key, by simpa using h1, kV_key r1, n', sl', dd', h2⟩
        | succ j =>
          obtain ⟨b, key', z⟩ := a2 j p (by simpa using e)
          rw [show k + 1 + j = k + (j + 1) by (first | lia | omega)] at z
          exact ⟨b, key', z⟩
    obtain ⟨qs, a1, a2⟩ := gen 0 ts fun j t e => by rw [Nat.zero_add]; exact get j t e
    exact ⟨qs, a1, fun j p e => by have z := a2 j p e; rw [Nat.zero_add] at z; exact z⟩
  have hql : qs.length = ts.length := by have z := Paired.length hqs; rw [List.length_map] at z; exact z.symm
  have zt : ts.length ≤ sizeLine := by rw [List.length_map] at z; exact z
  refine call_dict_pairs (knd := mixKind X.prog X.w) (I.ok.hd hc) qs e (by rw [List.size_toArray, hlen, hql]) hq2 (by rw [hql]; exact zt) fun h' tk d hd dd k => ?_
  have hf : H d = none := I.hok.fresh hd
  refine ⟨.ref d, upd H d (.dK (putAllK [] (ts.map (·.2)))), I.laid (t' := tk) k hd (dk_new ?_ (beq_eq_false_iff_ne.mpr (Nat.ne_of_gt (Nat.lt_of_lt_of_le I.big hd))) (KV.putAll hqs .nil) dd), rfl, q d hf⟩
  have z := len_putAllK (ts.map (·.2)) []
  rw [List.length_map, List.length_nil] at z
  (first | lia | omega)

noncomputable def DkK (P : Program) (w : World) (K : PySem.W.Frag) (a : Addr) (kvs : List (Key × V)) : Prop := (a == sysModules) = false ∧ kvs.length ≤ sizeLine ∧ ∃ vs, KV kvs vs ∧ ∀ h : Heap, K.In h → h.DictOf (mixKind P w) a vs
noncomputable def rDictD (P : Program) (w : World) (K : PySem.W.Frag) (xs : List V) (H : Hp) (Q : VK) : Prop := ∃ a kvs, xs = [.ref a] ∧ (Rd H a (.dK kvs) ∨ DkK P w K a kvs) ∧ ∀ d, H d = none → Q (.ref d) (upd H d (.dK kvs))
theorem call_dict_d : CallR X (.type "dict") (rDictD X.prog X.w X.K) := by
  intro pins s σ H xs us Q I r h
  obtain ⟨a, kvs, rfl, ha, q⟩ := h
  obtain ⟨u, rfl, ru⟩ := vals1 r
  cases ru
  rcases ha with ha | ⟨hS, hz, vs, rel, hd⟩
  · exact d_copyOf I ha fun p s' hp I' => ⟨.ref p, _, I', rfl, q p hp⟩
  · refine kt_call_dict hS (hd _ I.kIn) (by rw [← Paired.length rel]; exact hz) fun h' dd' hs => ?_
    have hf := I.hok.fresh (Nat.le_refl s.heap.objs.size)
    refine ⟨.ref s.heap.objs.size, upd H s.heap.objs.size (.dK kvs), I.laid (t' := s.toks) (fun b o e => (hs.2 b (Nat.ne_of_lt (Heap.lt_size e))).trans (Heap.get?_push_of_some _ e)) (Nat.le_refl _) (dk_new hz (beq_eq_false_iff_ne.mpr (Ne.symm (Nat.ne_of_lt I.big))) rel dd'), rfl, q _ hf⟩


noncomputable def CDiv64 (i j : Int) : Prop := 0 < j ∧ j < 2 ^ 64
theorem op_fdiv64 : OpR X (binaryOp .FloorDiv) (rI CDiv64 fun i j => .int (i / j)) := opI fun i j _ _ s Q E hc q => by
  have e : i.fdiv j = i / j := Int.fdiv_eq_ediv_of_nonneg i (Int.le_of_lt hc.1)
  refine floordiv_int (by have := hc.1; (first | lia | omega)) (by rw [e]; exact q) (.inl (PyProof.noPylong_of_log2 ?_))
  have h1 : j.natAbs < 2 ^ 64 := by have := hc.2; have := hc.1; (first | lia | omega)
  have h2 : j.natAbs.log2 < 64 := (Nat.log2_lt (by have := hc.1; (first | lia | omega))).mpr h1
  (first | lia | omega)
end

mutual
inductive Rp (K : PySem.W.Frag) (H : Hp) : V → PyData → Prop
  | non : Rp K H .non .none
  | bl (b : Bool) : Rp K H (.bl b) (.bool b)
  | int (i : Int) : Rp K H (.int i) (.int i)
  | str (x : Str) : Rp K H (.str x) (.str x)
  | tup {a : Addr} {xs : List V} {ds : List PyData} : SqT K H a xs → Rps K H xs ds → Rp K H (.ref a) (.tuple ds)
  | lst {a : Addr} {xs : List V} {ds : List PyData} : SqL K H a xs → Rps K H xs ds → Rp K H (.ref a) (.list ds)
inductive Rps (K : PySem.W.Frag) (H : Hp) : List V → List PyData → Prop
  | nil : Rps K H [] []
  | cons {x : V} {d : PyData} {xs : List V} {ds : List PyData} : Rp K H x d → Rps K H xs ds → Rps K H (x :: xs) (d :: ds)
end
theorem Same.sqT {K : PySem.W.Frag} {H H' : Hp} {a : Addr} {xs : List V} (e : Same H H') (h : SqT K H a xs) : SqT K H' a xs := by
  rcases h with (h | ⟨o, h⟩) | h
  · exact .inl (.inl (e _ _ h))
  · exact .inl (.inr ⟨o, e _ _ h⟩)
  · exact .inr h
mutual
theorem Rp.same {K : PySem.W.Frag} {H H' : Hp} (s : Same H H') : ∀ {v : V} {d : PyData}, Rp K H v d → Rp K H' v d
  | _, _, .non => .non
  | _, _, .bl b => .bl b
  | _, _, .int i => .int i
  | _, _, .str x => .str x
  | _, _, .tup h r => .tup (s.sqT h) (Rps.same s r)
  | _, _, .lst h r => .lst (s.seq h) (Rps.same s r)
theorem Rps.same {K : PySem.W.Frag} {H H' : Hp} (s : Same H H') : ∀ {v : List V} {d : List PyData}, Rps K H v d → Rps K H' v d
  | _, _, .nil => .nil
  | _, _, .cons h r => .cons (Rp.same s h) (Rps.same s r)
end
theorem Rps.length {K : PySem.W.Frag} {H : Hp} : ∀ {v : List V} {d : List PyData}, Rps K H v d → v.length = d.length
  | _, _, .nil => rfl
  | _, _, .cons _ r => by rw [List.length_cons, List.length_cons, Rps.length r]
theorem Rps.append {K : PySem.W.Frag} {H : Hp} : ∀ {v w : List V} {d e : List PyData}, Rps K H v d → Rps K H w e → Rps K H (v ++ w) (d ++ e)
  | _, _, _, _, .nil, s => s
  | _, _, _, _, .cons h r, s => .cons h (Rps.append r s)
theorem Rps.get {K : PySem.W.Frag} {H : Hp} : ∀ {v : List V} {d : List PyData} {i : Nat} {x : PyData}, Rps K H v d → d[i]? = some x → ∃ y, v[i]? = some y ∧ Rp K H y x
  | _, _, _, _, .nil, e => by simp at e
  | _, _, 0, _, .cons h _, e => by simp at e; subst e; exact ⟨_, rfl, h⟩
  | _, _, i + 1, x, .cons _ r, e => by
    obtain ⟨y, h1, h2⟩ := Rps.get (i := i) (x := x) r (by simpa using e)
    exact ⟨y, by simpa using h1, h2⟩
section
variable {X : Cx} {pins : List (Addr × Obj)} {σ : St} {H : Hp} {s : Shared}
mutual
theorem Rp.reads (I : Inv X pins σ H s) : ∀ {v : V} {d : PyData} {u : Value}, Rp X.K H v d → RelV v u → ∃ as, Reads s.heap u d as
  | _, _, _, .non, r => by cases (show _ = Value.none from r); exact ⟨_, Reads.none⟩
  | _, _, _, .bl b, r => by cases (show _ = Value.bool b from r); exact ⟨_, Reads.bool b⟩
  | _, _, _, .int i, r => by obtain ⟨t, rfl⟩ := r; exact ⟨_, Reads.int i t⟩
  | _, _, _, .str x, r => by obtain ⟨t, rfl⟩ := r; exact ⟨_, Reads.str x t⟩
  | _, _, _, .tup h q, r => by
    cases (show _ = Value.ref _ from r)
    obtain ⟨its, rv, ⟨o, e, c, n, d⟩, _⟩ := I.tuple h
    obtain ⟨as, z⟩ := Rps.reads I q rv
    exact ⟨as, reads_tuple_at e c d (by simpa using z)⟩
  | _, _, _, .lst h q, r => by
    cases (show _ = Value.ref _ from r)
    obtain ⟨its, rv, ⟨o, n, e, c, _, d⟩, _⟩ := I.list h
    obtain ⟨as, z⟩ := Rps.reads I q rv
    exact ⟨_, reads_list_at e c d (by simpa using z)⟩
theorem Rps.reads (I : Inv X pins σ H s) : ∀ {v : List V} {d : List PyData} {u : List Value}, Rps X.K H v d → Vals v u → ∃ as, ReadsAll s.heap u d as
  | _, _, _, .nil, .nil => ⟨_, ReadsAll.nil⟩
  | _, _, _, .cons h q, .cons r t => by
    obtain ⟨as, a⟩ := Rp.reads I h r
    obtain ⟨bs, b⟩ := Rps.reads I q t
    exact ⟨_, ReadsAll.cons a b⟩
end
inductive PrEqD (K : PySem.W.Frag) (neg : Bool) (x : V) (y : V) (H : Hp) (Q : VK) : Prop
  | mk (d e : _) (h0 : Rp K H x d) (h1 : Rp K H y e) (h2 : SeqAt.shaped d = true) (h3 : SeqAt.shaped e = true) (h4 : Q (.bl (if neg then !PyData.eqv d e else PyData.eqv d e)) H) : PrEqD K neg x y H Q
noncomputable def rEqD (K : PySem.W.Frag) (neg : Bool) : R2 := fun x y H Q => PrEqD K neg x y H Q
theorem op_eqD (hu : X.A.units + 64 < cLine) : OpR X (compareOp .Eq) (rEqD X.K false) := by
  intro pins s σ H x y v u Q I rx ry h
  obtain ⟨d, e, hd, he, sd, se, q⟩ := h
  obtain ⟨as, ra⟩ := hd.reads I rx
  obtain ⟨bs, rb⟩ := he.reads I ry
  exact eq_dataH ra rb sd se hu ⟨.bl _, H, I, rfl, q⟩
theorem op_neD (hu : X.A.units + 64 < cLine) : OpR X (compareOp .NotEq) (rEqD X.K true) := by
  intro pins s σ H x y v u Q I rx ry h
  obtain ⟨d, e, hd, he, sd, se, q⟩ := h
  obtain ⟨as, ra⟩ := hd.reads I rx
  obtain ⟨bs, rb⟩ := he.reads I ry
  exact ne_dataH ra rb sd se hu ⟨.bl _, H, I, rfl, q⟩
end

structure Fn (P : Program) (w : World) (K : PySem.W.Frag) (mg : Str → Option Value) (base : Heap) (x : Str) (k : Nat) (ps : List Str) (sp : Sp) : Prop where
  ex : ∃ f fd, FnOk P w K mg base (CX1 P w) k f fd ps sp ∧ mg x = some (.ref f) ∧ PySem.W.keepIn K (.ref f) = true ∧ Binds K fd ps []
structure Mt (P : Program) (w : World) (K : PySem.W.Frag) (mg : Str → Option Value) (base : Heap) (C : Addr) (m : Str) (k : Nat) (ps : List Str) (sp : Sp) : Prop where
  ex : ∃ f fd, FnOk P w K mg base (CX1 P w) k f fd ps sp ∧ Meth K C m f ∧ Cls K C ∧ Binds K fd ps []
structure Mc (P : Program) (w : World) (K : PySem.W.Frag) (mg : Str → Option Value) (base : Heap) (x : Str) (C : Addr) (k : Nat) (ps : List Str) (sp : Sp) : Prop where
  ex : ∃ f fd, FnOk P w K mg base (CX1 P w) k f fd ps sp ∧ Mk K C f ∧ mg x = some (.ref C) ∧ Binds K fd ps []
section
variable {X : Cx} {k : Nat} {C : Addr} {ps : List Str} {sp : Sp} {E : XK} {x m : Str} {p pos apos : Pos} {e o : Expr} {es : List Expr} {ta : TE} {t : TA}
theorem pf_call (F : Fn X.prog X.w X.K X.mg X.base x k ps sp) (hr : Room k X.A) (hg : Gl X x) (hx : Passes (CX1 X.prog X.w) X E) (ha : PA X (e :: es) t) (hdb : (x == ("__debug__" : Str)) = false := by decide)
    (he : starEach (e :: es) X.env = (false, eval e X.env) :: starEach es X.env := by rfl) (hpl : (backTo pos (starEach es X.env)).any (·.1) = false := by rfl) : PE X (.Call (.Name x p) (e :: es) [] pos) (tCall sp [] E t) := by
  obtain ⟨f, fd, ok, mgf, kp, bi⟩ := F.ex
  exact pe_call ok hr hg mgf kp bi .nil hx ha hdb he hpl
theorem pf_meth {pl : Sem Bool} (F : Mt X.prog X.w X.K X.mg X.base C m k ps sp) (ho : PE X o ta) (hr : Room k X.A) (hx : Passes (CX1 X.prog X.w) X E) (ha : PA X (e :: es) t)
    (hst : starEach (e :: es) X.env = (false, eval e X.env) :: starEach es X.env := by rfl) (hpl : (backTo pos (starEach es X.env)).any (·.1) = false := by rfl)
    (ht : eval (.Call (.Attribute o m apos) (e :: es) [] pos) X.env = (do
      let ov ← eval o X.env
      standAt apos.atName
      let (f, first) ← holding [ov] (getMethod ov m pl)
      callWith pos f first (backTo pos (starEach (e :: es) X.env)) (backToKw pos (keywordEach [] X.env))) := by rfl) :
    PE X (.Call (.Attribute o m apos) (e :: es) [] pos) (tMeth C m sp [] E ta t) := by
  obtain ⟨f, fd, ok, mt, cl, bi⟩ := F.ex
  exact pe_meth (pl := pl) ho cl mt ok hr bi .nil hx ha hst hpl ht
theorem pf_meth0 {pl : Sem Bool} (F : Mt X.prog X.w X.K X.mg X.base C m k ps sp) (ho : PE X o ta) (hr : Room k X.A) (hx : Passes (CX1 X.prog X.w) X E)
    (ht : eval (.Call (.Attribute o m apos) [] [] pos) X.env = (do
      let ov ← eval o X.env
      standAt apos.atName
      let (f, first) ← holding [ov] (getMethod ov m pl)
      callWith pos f first (backTo pos (starEach [] X.env)) (backToKw pos (keywordEach [] X.env))) := by rfl) :
    PE X (.Call (.Attribute o m apos) [] [] pos) (tMeth C m sp [] E ta tNil) := by
  obtain ⟨f, fd, ok, mt, cl, bi⟩ := F.ex
  exact pe_meth0 (pl := pl) ho cl mt ok hr bi .nil hx ht
theorem pf_make (F : Mc X.prog X.w X.K X.mg X.base x C k ps sp) (hr : Room (k + 1) X.A) (hg : Gl X x) (hx : Passes (CX1 X.prog X.w) X E) (ha : PA X (e :: es) t) (hdb : (x == ("__debug__" : Str)) = false := by decide)
    (he : starEach (e :: es) X.env = (false, eval e X.env) :: starEach es X.env := by rfl) (hpl : (backTo pos (starEach es X.env)).any (·.1) = false := by rfl) : PE X (.Call (.Name x p) (e :: es) [] pos) (tMake C sp [] E t) := by
  obtain ⟨f, fd, ok, mk, mgx, bi⟩ := F.ex
  exact pe_make mk ok hr hg mgx bi .nil hx ha hdb he hpl
end
end L2

namespace L2
open PySem PySem.Spec PyProof.Rows
section
variable {X : Cx} {es : List Expr} {env : Env}
end
end L2

namespace L2
open PySem PySem.Spec PyProof.Rows
section
variable {X : Cx} {elt iter tg : Expr} {ifs : List Expr} {scope : Scope} {pos : Pos} {own capn : List Str} {capI : List Nat} {wi : TI} {g : TG} {tt : TT} {te : TE}
theorem ps_setC {i : Nat} {y : Str} {py spos : Pos} (hN : X.N.Nodup) (hi : X.N[i]? = some y) (hy : Loc X.env.scope y) (hex : X.ex = []) (hc : X.calm = true) (B : BlkScope X scope own capn capI) (hit : PI X tg iter wi) (hg : ∀ cl C s H fp pins, PG (X.blk scope (own ++ capn) cl C s H fp pins) tg g)
    (ht : ∀ cl C s H fp pins, PIfs (X.blk scope (own ++ capn) cl C s H fp pins) ifs tt) (he : ∀ cl C s H fp pins, PE (X.blk scope (own ++ capn) cl C s H fp pins) elt te)
    (hs : ∀ x, foldedSetIterable iter X.env x = pure x := by intro _; rfl) (hsw : swapsWith (.ListComp elt [⟨tg, iter, ifs, 0⟩] scope pos) (some (.Name y py)) spos.line X.env = pure true := by rfl)
    (hf : X.fn y = true ∨ X.env.scope.names.lookup y = some .local := by first | exact .inl rfl | exact .inr rfl | assumption) :
    PS X (.Assign [.Name y py] (.ListComp elt [⟨tg, iter, ifs, 0⟩] scope pos) spos) (tAsg (tLC wi own.length capI g tt te) (gName i)) := by
  intro pins s σ H D0 I h
  rw [exec_Assign_Name_used _ _ _ _ hsw]
  refine wpAny_bind (wpAny_standAt (wpAny_bind ?_))
  show wpAny _ X.A (do let _ ← comprehension (.ListComp elt [⟨tg, iter, ifs, 0⟩] scope pos) scope X.env _ (newList []) false (eval iter X.env) (some (assign (.Name y py) X.env))) _ _ s
  obtain ⟨cl, hclos, hcl, hcf⟩ := closure_of (env := X.env) (scope := scope) (fun y hy hf => I.ok.has y.1 (.inl (B.free y hy hf)))
  refine wpAny_bind (wpAny_mono (wpAny_comprehension_free (use := some (assign (.Name y py) X.env)) (Q := fun _ s' => SP X pins D0 .next s') rfl hs hclos B.kind B.names (thn (hit pins s σ H _ I h) fun v s1 h1 => thn h1 fun itv s2 h2 => ?_)) (fun _ s' hq => wpAny_pure (wpAny_pure hq)) fun _ _ e => e)
  obtain ⟨it, fp, tn, J, H2, e, I2, T, st2, f2, hW⟩ := h2
  subst e
  obtain ⟨W, ⟨m0, w0⟩, turn⟩ := hW s2.heap.objs.size (I2.hok.fresh (Nat.le_refl _))
  refine wpAny_newObj_type (wpAny_newFunctionEnv B.cell (by intro y hy; simp at hy) (fun h4 hns hsb => ?_) B.kind)
  dsimp only at hns hsb ⊢
  have I3 : Inv X pins σ (upd H2 s2.heap.objs.size (.lst [])) { s2 with heap := s2.heap.push { cls := .type "list", dict := none, data := .seq ([] : List Value).toArray } } :=
    I2.laid (t' := s2.toks) (fun b u e => Heap.get?_push_of_some _ e) (Nat.le_refl _) ⟨Nat.zero_le _, [], 0, .nil, Heap.get?_push_size _ rfl⟩
  generalize hs3 : ({ s2 with heap := s2.heap.push { cls := .type "list", dict := none, data := .seq ([] : List Value).toArray } } : Shared) = s3 at I3
  have e3 : s2.heap.push { cls := .type "list", dict := none, data := .seq ([] : List Value).toArray } = s3.heap := by rw [← hs3]
  have ob2 : ∀ b ∈ fp, ∃ o, s2.heap.get? b = some o := fun b hb => let ⟨o, z, _⟩ := T.obj _ _ st2 b hb; ⟨o, z⟩
  have up3 : ∀ b o, s2.heap.get? b = some o → s3.heap.get? b = some o := fun b o z => by
    rw [← e3]
    exact Heap.get?_push_of_some _ z
  have f3 : ∀ b ∈ fp, FpOk X pins (upd H2 s2.heap.objs.size (.lst [])) b := fun b hb => by
    obtain ⟨o, z⟩ := ob2 b hb
    exact ⟨by rw [upd_ne (Nat.ne_of_lt (Heap.lt_size z))]; exact (f2 b hb).1, (f2 b hb).2⟩
  have ob3 : ∀ b ∈ fp, ∃ o, s3.heap.get? b = some o := fun b hb => let ⟨o, z⟩ := ob2 b hb; ⟨o, up3 b o z⟩
  rw [e3] at hns hsb ⊢
  have up4 : ∀ b o, s3.heap.get? b = some o → h4.get? b = some o := fun b o z => (hsb.2 b (Nat.ne_of_lt (Heap.lt_size z))).trans (Heap.get?_push_of_some _ z)
  have IB := blk_start (t' := s2.toks + ([] : List (Str × Value)).length) B I3 f3 ob3 hcl hcf hns up4
  have e4 : ({ s3 with heap := h4, toks := s2.toks + ([] : List (Str × Value)).length } : Shared) = { s2 with heap := h4, toks := s2.toks + ([] : List (Str × Value)).length } := by rw [← hs3]
  rw [e4] at IB
  have tn4 : tn 0 h4 := T.keep _ _ _ st2 fun b hb o z => up4 b o (up3 b o z)
  have fst : ∀ {H' : Hp}, (∀ b ∈ fp, H' b = none) → ∀ b ∈ fp, FpOk (X.blk scope (own ++ capn) cl s3.heap.objs.size s3 (upd H2 s2.heap.objs.size (.lst [])) fp pins) [] H' b := fun {H'} hn b hb => by
    obtain ⟨o, z⟩ := ob3 b hb
    refine ⟨hn b hb, Nat.ne_of_lt (Heap.lt_size z), fun y => ?_, .inl hb, fun x c ec => (f3 b hb).2.2.2.2.1 x c (hcl x c ec), fun p hp => (f3 b hb).2.2.2.2.2 p (by have y : p ∈ (X.pn ++ pins) ++ [] := hp; simpa using y)⟩
    rcases List.mem_cons.mp (I3.stkSub b y) with y | y
    · exact (f3 b hb).2.1 y
    · exact (f3 b hb).2.2.1 y
  have loop : codeAny (model X.prog X.w) X.A (.compLoop (.ListComp elt [⟨tg, iter, ifs, 0⟩] scope pos) 0 (.ref it) (.ref s2.heap.objs.size) (compEnvC scope cl s3.heap.objs.size X.env))
      (compPost (model X.prog X.w) X.A X.xe (some (assign (.Name y py) X.env)) (fun _ s' => SP X pins D0 .next s') (.ref s2.heap.objs.size) s3.heap.objs.size) { s2 with heap := h4, toks := s2.toks + ([] : List (Str × Value)).length } := by
    refine comp_loop (fun n s' => ∃ i σ' acc H', Inv (X.blk scope (own ++ capn) cl s3.heap.objs.size s3 (upd H2 s2.heap.objs.size (.lst [])) fp pins) [] σ' H' s' ∧ tn i s'.heap ∧ (∀ b ∈ fp, H' b = none) ∧ W i n σ' acc H') ?_ m0 ⟨0, _, [], _, IB, tn4, fun b hb => (f3 b hb).1, w0⟩
    rintro n s5 ⟨i, σ5, acc, H5, I5, st5, fr5, w5⟩
    have no : ∀ {α : Type} {t : Sem α} {Q : α → Shared → Prop} {E : Value → Shared → Prop} {s : Shared}, wpAny (model X.prog X.w) X.A t Q (fun _ _ => False) s → wpAny (model X.prog X.w) X.A t Q E s := fun z => wpAny_mono z (fun _ _ y => y) fun _ _ y => y.elim
    rcases turn i n σ5 acc H5 w5 with ⟨stop, qn⟩ | ⟨go, step⟩
    · refine no (thn (T.done (X.blk scope (own ++ capn) cl s3.heap.objs.size s3 (upd H2 s2.heap.objs.size (.lst [])) fp pins) rfl rfl rfl hc i [] s5 σ5 H5 _ I5 (fst fr5) st5 stop) fun r s6 ⟨hr, I6⟩ => ?_)
      subst hr
      obtain ⟨m, hm, _⟩ := id I6.loc
      have IX : Inv X pins σ H5 s6 := blk_end I3 f3 I6 (Heap.SameBut.refl _ _)
      have fC : ∀ b ∈ [s3.heap.objs.size], FpOk X pins H5 b := fun b hb => by
        obtain rfl : b = s3.heap.objs.size := by simpa using hb
        exact I3.fpOk (Nat.le_refl _) I6.free
      obtain ⟨oC, esC, epC, hoC, hdC, hrC⟩ := id hm
      have Ip := IX.pinned fC (fun b hb => by
        obtain rfl : b = s3.heap.objs.size := by simpa using hb
        exact ⟨oC, hoC, fun v z => by rw [hdC] at z; cases z⟩)
      have apC := I3.apart hex (Heap.get?_none_of_le (Nat.le_refl s3.heap.objs.size))
      have nfC := I3.nofs (Nat.le_refl s3.heap.objs.size)
      show wpAny _ X.A (assign (.Name y py) X.env (.ref s2.heap.objs.size)) _ _ _
      refine wpAny_assign_Name (store_ok Ip hN hi hy (v := .ref s2.heap.objs.size) rfl (fun s7 I7 => ?_) hf)
      have hC7 : s7.heap.get? s3.heap.objs.size = some oC := (I7.pin (s3.heap.objs.size, oC) (List.mem_append_right _ (List.mem_append_right _ (mem_pinsAt (by simp) hoC)))).1
      refine ⟨m, ⟨oC, esC, epC, hC7, hdC, hrC⟩, fun h' hs' => ⟨_, H5, ?_, qn⟩⟩
      exact I7.unpinned.recd apC I6.free nfC fun b o hb z => (hs'.2 b hb).trans z
    · refine no (thn (T.item (X.blk scope (own ++ capn) cl s3.heap.objs.size s3 (upd H2 s2.heap.objs.size (.lst [])) fp pins) rfl rfl rfl hc i [] s5 σ5 H5 _ I5 (fst fr5) st5 go) fun r s6 ⟨u, hr, h6⟩ => ?_)
      subst hr
      refine no (thn h6 fun _ s7 ⟨x, H7, I7, r7, y7, st7, fr7⟩ => ?_)
      have I7' := I7.pinned (fst fr7) (T.obj _ _ st7)
      have kp : ∀ {σ8 : St} {H8 : Hp} {s8 : Shared}, Inv (X.blk scope (own ++ capn) cl s3.heap.objs.size s3 (upd H2 s2.heap.objs.size (.lst [])) fp pins) ([] ++ pinsAt fp s7.heap) σ8 H8 s8 → tn (i + 1) s8.heap ∧ ∀ b ∈ fp, H8 b = none := fun {σ8 H8 s8} I8 => by
        refine ⟨T.keep _ _ _ st7 fun b hb o z => (I8.pin (b, o) (List.mem_append_right _ (List.mem_append_right _ (mem_pinsAt hb z)))).1, fun b hb => ?_⟩
        obtain ⟨o, z, d⟩ := T.obj _ _ st7 b hb
        exact (I8.pin (b, o) (List.mem_append_right _ (List.mem_append_right _ (mem_pinsAt hb z)))).2.1
      refine no (thn (hg cl s3.heap.objs.size s3 _ fp pins _ s7 σ5 H7 x u _ I7' r7 (step x H7 y7)) fun _ s8 ⟨σ8, H8, I8, q8⟩ => ?_)
      refine no (thn (ht cl s3.heap.objs.size s3 _ fp pins _ s8 σ8 H8 _ I8 q8) fun b s9 ⟨H9, I9, q9⟩ => ?_)
      cases b with
      | false =>
        obtain ⟨m', hm, w9⟩ := q9
        exact ⟨m', hm, i + 1, σ8, acc, H9, I9.unpinned, (kp I9).1, (kp I9).2, w9⟩
      | true =>
        refine no (thn (he cl s3.heap.objs.size s3 _ fp pins _ s9 σ8 H9 _ I9 q9) fun y s10 ⟨yv, H10, I10, r10, hD, hz, m', hm, w10⟩ => ?_)
        refine no (thn (mt_append _ s10 σ8 H10 (.ref s2.heap.objs.size) [yv] (.ref s2.heap.objs.size) [y] (fun v H11 => v = .non ∧ H11 = upd H10 s2.heap.objs.size (.lst (acc ++ [yv]))) I10 rfl (.cons r10 .nil) ⟨_, acc, yv, rfl, rfl, hD, hz, rfl, rfl⟩) fun _ s11 ⟨_, H11, I11, _, _, e11⟩ => ?_)
        subst e11
        exact ⟨m', hm, i + 1, σ8, acc ++ [yv], _, I11.unpinned, (kp I11).1, (kp I11).2, w10⟩
  exact codeAny_compStart_list loop (T.self _ 0 _ _ _ tn4 loop)
end
end L2

namespace L2
open PySem PySem.Spec PyProof.Rows
section
variable {X : Cx}
end
end L2

set_option maxHeartbeats 1000000
namespace L2
open PySem PySem.Spec PyProof.Rows
section
variable {prog : Program} {w : World} {A : Around} {E : Value → Shared → Prop} {s : Shared}
theorem wpAny_loadIfAlive {M : Model} {a : Addr} {Q : Option Obj → Shared → Prop} (h : Q (s.heap.get? a) s) : wpAny M A (loadIfAlive a) Q E s := fun Γ p hΓ => h
noncomputable abbrev IsZip2 (h : Heap) (z TI TO T : Addr) (b : Bool) : Prop :=
  h.get? z = some { cls := .type "zip", dict := none, data := .fields #[rawInt T, .bool b, .bool false, .ref TI, .ref TO], slots := #[] }
theorem free_no {z TI TO T : Addr} {b : Bool} {oT : Obj} {Q : Bool → Shared → Prop} (hz : IsZip2 s.heap z TI TO T b) (hT : s.heap.get? T = some oT)
    (h : ∀ h', IsZip2 h' z TI TO T true → Heap.SameBut z s.heap h' → Q false { s with heap := h' }) : wpAny (model prog w) A (Builtin.SmallTypes.ownedTupleIsFree (.ref z)) Q E s := by
  unfold Builtin.SmallTypes.ownedTupleIsFree
  refine wpAny_bind (wpAny_field hz rfl (x := rawInt T) rfl ?_)
  show wpAny _ _ (loadIfAlive ((T : Int).toNat) >>= _) _ _ _
  refine wpAny_bind (wpAny_loadIfAlive ?_)
  rw [Int.toNat_natCast, hT]
  cases b with
  | false =>
    show wpAny _ _ (field (.ref z) 1 >>= _) _ _ _
    refine wpAny_bind (wpAny_field hz rfl (x := .bool false) rfl ?_)
    rw [if_pos (by decide)]
    refine wpAny_bind (wpAny_setField_rec hz (by simp) fun h₁ hz₁ hs₁ => wpAny_pure ?_)
    exact h h₁ hz₁ hs₁
  | true =>
    show wpAny _ _ (field (.ref z) 1 >>= _) _ _ _
    refine wpAny_bind (wpAny_field hz rfl (x := .bool true) rfl ?_)
    rw [if_neg (by decide)]
    exact wpAny_pure (h s.heap hz (Heap.SameBut.refl _ _))
theorem zip2_item {z TI TO T i1 i2 l1 l2 : Addr} {k1 k2 : Nat} {xs ys : Array Value} {x y : Value} {b : Bool} {oT : Obj} {Q : Value → Shared → Prop} (D : ZipApart z TI TO i1 i2 l1 l2)
    (hz : IsZip2 s.heap z TI TO T b) (hT : s.heap.get? T = some oT) (hTI : IsPair s.heap TI (.ref i1) (.ref i2))
    (h1 : s.heap.IsListIter i1 l1 k1) (h2 : s.heap.IsListIter i2 l2 k2) (hl1 : s.heap.IsList l1 xs) (hl2 : s.heap.IsList l2 ys) (hx : xs[k1]? = some x) (hy : ys[k2]? = some y)
    (hQ : ∀ h', IsZip2 h' z TI TO T true → h'.IsListIter i1 l1 (k1 + 1) → h'.IsListIter i2 l2 (k2 + 1) → IsPair h' s.heap.objs.size x y → h'.objs.size = s.heap.objs.size + 1 →
      (∀ c o, c ≠ z → c ≠ i1 → c ≠ i2 → s.heap.get? c = some o → h'.get? c = some o) → Q (.ref s.heap.objs.size) { s with heap := h' }) :
    wpAny (model prog w) A (Builtin.«zip.__next__» ⟨[.ref z], []⟩) (fun fin s' => ∃ v, fin = .done (.ret v) ∧ Q v s') E s := by
  show wpAny _ _ (field (.ref z) 2 >>= _) _ _ _
  refine wpAny_bind (wpAny_field hz rfl (x := .bool false) rfl ?_)
  show wpAny _ _ (field (.ref z) 3 >>= _) _ _ _
  refine wpAny_bind (wpAny_field hz rfl (x := .ref TI) rfl ?_)
  refine wpAny_bind (wpAny_seqItems hTI rfl ?_)
  show wpAny _ _ (Builtin.SmallTypes.ownedTupleIsFree (.ref z) >>= _) _ _ _
  refine wpAny_bind (free_no hz hT fun h₁ hz₁ hs₁ => ?_)
  rw [if_neg (by decide)]
  refine wpAny_bind ?_
  simp only [List.forIn_toArray, List.forIn_cons, List.forIn_nil]
  refine wpAny_bind (wpAny_bind (wpAny_holding ?_))
  show wpAny _ _ (Builtin.SmallTypes.nextOf (.ref i1) >>= _) _ _ _
  refine wpAny_bind (wpAny_nextOf_list_item (h1.extBut hs₁.extBut D.i1z) (hl1.extBut hs₁.extBut D.l1z) hx fun h₂ h1₂ hs₂ => wpAny_pure ?_)
  refine wpAny_pure ?_
  refine wpAny_bind (wpAny_bind (wpAny_holding ?_))
  show wpAny _ _ (Builtin.SmallTypes.nextOf (.ref i2) >>= _) _ _ _
  refine wpAny_bind (wpAny_nextOf_list_item ((h2.extBut hs₁.extBut D.i2z).extBut hs₂.extBut D.i12.symm) ((hl2.extBut hs₁.extBut D.l2z).extBut hs₂.extBut D.l2i1) hy fun h₃ h2₃ hs₃ => wpAny_pure ?_)
  refine wpAny_pure (wpAny_pure ?_)
  refine wpAny_bind (wpAny_newTuple (hsz := (by show 2 ≤ sizeLine; decide)) ?_)
  have hsz : h₃.objs.size = s.heap.objs.size := by rw [hs₃.1, hs₂.1, hs₁.1]
  refine wpAny_pure ⟨_, rfl, ?_⟩
  have up : ∀ c o, c ≠ z → c ≠ i1 → c ≠ i2 → s.heap.get? c = some o → (h₃.push { cls := .type "tuple", data := .seq #[x, y] }).get? c = some o := fun c o c1 c2 c3 e => Heap.get?_push_of_some _ (hs₃.extBut _ _ c3 (hs₂.extBut _ _ c2 (hs₁.extBut _ _ c1 e)))
  show Q (.ref h₃.objs.size) { s with heap := h₃.push { cls := .type "tuple", data := .seq #[x, y] } }
  rw [hsz]
  refine hQ _ (Heap.get?_push_of_some _ (hs₃.extBut _ _ D.i2z.symm (hs₂.extBut _ _ D.i1z.symm hz₁))) ((h1₂.extBut hs₃.extBut D.i12).at fun o e => Heap.get?_push_of_some _ e) (h2₃.at fun o e => Heap.get?_push_of_some _ e) ?_ (by rw [Heap.size_push, hsz]) up
  rw [← hsz]
  exact Heap.get?_push_size _ rfl
theorem zip2_end {z TI TO T i1 i2 l1 l2 : Addr} {k1 k2 : Nat} {xs ys : Array Value} {b : Bool} {oT : Obj} {Q : Fin → Shared → Prop} (hh : A.handled = none) (D : ZipApart z TI TO i1 i2 l1 l2)
    (hz : IsZip2 s.heap z TI TO T b) (hT : s.heap.get? T = some oT) (hTI : IsPair s.heap TI (.ref i1) (.ref i2))
    (h1 : s.heap.IsListIter i1 l1 k1) (h2 : s.heap.IsListIter i2 l2 k2) (hl1 : s.heap.IsList l1 xs) (hl2 : s.heap.IsList l2 ys) (hend : xs[k1]? = none ∨ ys[k2]? = none)
    (hE : ∀ h' e, (∀ c o, c ≠ z → c ≠ i1 → c ≠ i2 → s.heap.get? c = some o → h'.get? c = some o) → (∃ o, h'.get? e = some o ∧ o.cls = .type "StopIteration") → E (.ref e) { s with heap := h' }) :
    wpAny (model prog w) A (Builtin.«zip.__next__» ⟨[.ref z], []⟩) Q E s := by
  show wpAny _ _ (field (.ref z) 2 >>= _) _ _ _
  refine wpAny_bind (wpAny_field hz rfl (x := .bool false) rfl ?_)
  show wpAny _ _ (field (.ref z) 3 >>= _) _ _ _
  refine wpAny_bind (wpAny_field hz rfl (x := .ref TI) rfl ?_)
  refine wpAny_bind (wpAny_seqItems hTI rfl ?_)
  show wpAny _ _ (Builtin.SmallTypes.ownedTupleIsFree (.ref z) >>= _) _ _ _
  refine wpAny_bind (free_no hz hT fun h₁ hz₁ hs₁ => ?_)
  rw [if_neg (by decide)]
  refine wpAny_bind ?_
  simp only [List.forIn_toArray, List.forIn_cons, List.forIn_nil]
  refine wpAny_bind (wpAny_bind (wpAny_holding ?_))
  show wpAny _ _ (Builtin.SmallTypes.nextOf (.ref i1) >>= _) _ _ _
  cases hx : xs[k1]? with
  | none =>
    refine wpAny_bind (wpAny_nextOf_list_end hh (h1.extBut hs₁.extBut D.i1z) (hl1.extBut hs₁.extBut D.l1z) hx fun h₂ e hs₂ he => ?_)
    exact hE h₂ e (fun c o c1 c2 c3 x => hs₂ _ _ c2 (hs₁.extBut _ _ c1 x)) he
  | some x =>
    have hy : ys[k2]? = none := by rcases hend with h | h; rw [hx] at h; cases h; exact h
    refine wpAny_bind (wpAny_nextOf_list_item (h1.extBut hs₁.extBut D.i1z) (hl1.extBut hs₁.extBut D.l1z) hx fun h₂ h1₂ hs₂ => wpAny_pure ?_)
    refine wpAny_pure ?_
    refine wpAny_bind (wpAny_bind (wpAny_holding ?_))
    show wpAny _ _ (Builtin.SmallTypes.nextOf (.ref i2) >>= _) _ _ _
    refine wpAny_bind (wpAny_nextOf_list_end hh ((h2.extBut hs₁.extBut D.i2z).extBut hs₂.extBut D.i12.symm) ((hl2.extBut hs₁.extBut D.l2z).extBut hs₂.extBut D.l2i1) hy fun h₃ e hs₃ he => ?_)
    exact hE h₃ e (fun c o c1 c2 c3 x => hs₃ _ _ c3 (hs₂.extBut _ _ c2 (hs₁.extBut _ _ c1 x))) he
theorem next_zip2_item {z TI TO T i1 i2 l1 l2 : Addr} {k1 k2 : Nat} {xs ys : Array Value} {x y : Value} {b : Bool} {oT : Obj} {Q : Option Value → Shared → Prop} (D : ZipApart z TI TO i1 i2 l1 l2)
    (hz : IsZip2 s.heap z TI TO T b) (hT : s.heap.get? T = some oT) (hTI : IsPair s.heap TI (.ref i1) (.ref i2))
    (h1 : s.heap.IsListIter i1 l1 k1) (h2 : s.heap.IsListIter i2 l2 k2) (hl1 : s.heap.IsList l1 xs) (hl2 : s.heap.IsList l2 ys) (hx : xs[k1]? = some x) (hy : ys[k2]? = some y)
    (hQ : ∀ h', IsZip2 h' z TI TO T true → h'.IsListIter i1 l1 (k1 + 1) → h'.IsListIter i2 l2 (k2 + 1) → IsPair h' s.heap.objs.size x y → h'.objs.size = s.heap.objs.size + 1 →
      (∀ c o, c ≠ z → c ≠ i1 → c ≠ i2 → s.heap.get? c = some o → h'.get? c = some o) → Q (some (.ref s.heap.objs.size)) { s with heap := h' }) :
    wpAny (model prog w) A (pyNext (.ref z)) Q E s := by
  have hTy : s.TypeIs (.ref z) "zip" := ⟨_, hz, rfl⟩
  unfold pyNext
  exact wpAny_bind (wpAny_attempt (wpAny_callSpecial?_slot (name := Str.ofString "__next__") hTy F.slot_zip_next
    (wpAny_call_entry F.slot_zip_next hTy F.entry_zip_next
      (zip2_item D hz hT hTI h1 h2 hl1 hl2 hx hy fun h' a1 a3 a4 a5 a6 a7 => wpAny_pure (hQ h' a1 a3 a4 a5 a6 a7)) (F.args_zip_next_1 _))))
theorem next_zip2_end {z TI TO T i1 i2 l1 l2 : Addr} {k1 k2 : Nat} {xs ys : Array Value} {b : Bool} {oT : Obj} {Q : Option Value → Shared → Prop} (hh : A.handled = none) (D : ZipApart z TI TO i1 i2 l1 l2)
    (hz : IsZip2 s.heap z TI TO T b) (hT : s.heap.get? T = some oT) (hTI : IsPair s.heap TI (.ref i1) (.ref i2))
    (h1 : s.heap.IsListIter i1 l1 k1) (h2 : s.heap.IsListIter i2 l2 k2) (hl1 : s.heap.IsList l1 xs) (hl2 : s.heap.IsList l2 ys) (hend : xs[k1]? = none ∨ ys[k2]? = none)
    (hQ : ∀ h', (∀ c o, c ≠ z → c ≠ i1 → c ≠ i2 → s.heap.get? c = some o → h'.get? c = some o) → Q none { s with heap := h' }) : wpAny (model prog w) A (pyNext (.ref z)) Q E s := by
  have hTy : s.TypeIs (.ref z) "zip" := ⟨_, hz, rfl⟩
  unfold pyNext
  refine wpAny_bind (wpAny_attempt (wpAny_callSpecial?_slot (name := Str.ofString "__next__") hTy F.slot_zip_next
    (wpAny_call_entry F.slot_zip_next hTy F.entry_zip_next (zip2_end hh D hz hT hTI h1 h2 hl1 hl2 hend fun h' e hk he => ?_) (F.args_zip_next_1 _))))
  obtain ⟨o, ho, hc⟩ := he
  refine wpAny_bind (wpAny_isInstance (T := "StopIteration") (b := true) ⟨o, ho, hc⟩ isSubtype_stop ?_)
  exact wpAny_pure (hQ _ hk)
end
section
variable {prog : Program} {w : World} {K : Type} [DecidableEq K] {knd : KeyKind prog w K} {A : Around}
structure ZipOff (d z TI T i1 i2 l1 l2 : Addr) : Prop where
  zd : z ≠ d
  TId : TI ≠ d
  i1d : i1 ≠ d
  i2d : i2 ≠ d
  l1d : l1 ≠ d
  l2d : l2 ≠ d
  Td : T ≠ d
  Tz : T ≠ z
  Ti1 : T ≠ i1
  Ti2 : T ≠ i2
theorem zip_loop {d z TI TO T i1 i2 l1 l2 : Addr} {xs ys : Array Value} (hA : A.handled = none) (D : ZipApart z TI TO i1 i2 l1 l2) (O : ZipOff d z TI T i1 i2 l1 l2) : ∀ (ps : List (K × Value)) (i : Nat) (s : Shared) (t : Tok) (kvs : List (K × Value)) (b : Bool) (R : Result → Shared → Prop),
    IsZip2 s.heap z TI TO T b → (∃ oT, s.heap.get? T = some oT) → IsPair s.heap TI (.ref i1) (.ref i2) → s.heap.IsListIter i1 l1 i → s.heap.IsListIter i2 l2 i → s.heap.IsList l1 xs → s.heap.IsList l2 ys →
    (∀ (j : Nat) (p : K × Value), ps[j]? = some p → ∃ key : Value, xs[i + j]? = some key ∧ ys[i + j]? = some p.2 ∧ knd.is p.1 key = true) → (xs[i + ps.length]? = none ∨ ys[i + ps.length]? = none) →
    s.heap.DictOf knd d kvs → kvs.length + ps.length ≤ sizeLine →
    (∀ h' tk, h'.DictOf knd d (putAll kvs ps) → (∀ b o, b ≠ d → b ≠ z → b ≠ i1 → b ≠ i2 → s.heap.get? b = some o → h'.get? b = some o) → R (.ok (.ret .none)) { s with heap := h', toks := tk }) →
    codeAny (model prog w) A (.builtin "dict.update.loop" ⟨[.ref d, .ref z, .int i t, .none], []⟩) R s
  | [], i, s, t, kvs, b, R, hz, ⟨oT, hT⟩, hTI, h1, h2, hl1, hl2, hp, hend, hd, hsz, hR => by
    refine codeAny_builtin entry_uloop ?_
    unfold Builtin.«dict.update.loop»
    dsimp only
    refine wpAny_bind (next_zip2_end hA D hz hT hTI h1 h2 hl1 hl2 hend fun h' eb => ?_)
    show wpAny _ _ (Builtin.Dict.addKeywords d [] >>= _) _ _ _
    refine wpAny_bind (wpAny_pure (wpAny_pure ?_))
    exact hR h' s.toks (let ⟨o, es, ep, ho, r⟩ := hd; ⟨o, es, ep, eb d o (Ne.symm O.zd) (Ne.symm O.i1d) (Ne.symm O.i2d) ho, r⟩) fun b o _ b1 b2 b3 e => eb b o b1 b2 b3 e
  | p :: ps, i, s, t, kvs, b, R, hz, ⟨oT, hT⟩, hTI, h1, h2, hl1, hl2, hp, hend, hd, hsz, hR => by
    obtain ⟨key, hx, hy, hk⟩ := hp 0 p rfl
    refine codeAny_builtin entry_uloop ?_
    unfold Builtin.«dict.update.loop»
    dsimp only
    refine wpAny_bind (next_zip2_item D hz hT hTI h1 h2 hl1 hl2 hx hy fun h' a1 a3 a4 a5 a6 a7 => ?_)
    dsimp only
    refine wpAny_bind (wpAny_holding (wpAny_bind ?_))
    have hTy : ({ s with heap := h' } : Shared).TypeIs (.ref s.heap.objs.size) "tuple" := ⟨_, a5, rfl⟩
    refine wpAny_tryCatch (wpAny_bind (wpAny_typeOf hTy ?_))
    rw [if_pos (by decide)]
    refine wpAny_bind (wpAny_bind (wpAny_load a5 (wpAny_pure ?_)))
    refine wpAny_pure ?_
    show wpAny _ _ (holding [key, p.2] (dictSet d key p.2)) _ _ _
    have hd' : h'.DictOf knd d kvs := let ⟨o, es, ep, ho, r⟩ := hd; ⟨o, es, ep, a7 d o (Ne.symm O.zd) (Ne.symm O.i1d) (Ne.symm O.i2d) ho, r⟩
    refine wpAny_holding (wpAny_dictSet_pairs (s := { s with heap := h' }) hk hd' (fun h2 hd2 hs2 => ?_) (by rw [List.length_cons] at hsz; (first | lia | omega)))
    refine wpAny_pure ⟨Code.quiet_builtin _ (by decide +kernel), ?_⟩
    have keep : ∀ c o, c ≠ d → c ≠ z → c ≠ i1 → c ≠ i2 → s.heap.get? c = some o → h2.get? c = some o := fun c o c1 c2 c3 c4 e => (hs2.2 c c1).trans (a7 c o c2 c3 c4 e)
    have ls := len_stored kvs p.1 p.2
    rw [List.length_cons] at hsz hend
    refine zip_loop (xs := xs) (ys := ys) hA D O ps (i + 1) { s with heap := h2, toks := s.toks + 1 } _ (stored kvs p.1 p.2) true R ?_ ⟨oT, keep T oT O.Td O.Tz O.Ti1 O.Ti2 hT⟩ ?_ ?_ ?_ ?_ ?_ (fun j q e => ?_) ?_ hd2 (by (first | lia | omega)) fun h3 tk hd3 k3 => hR h3 tk hd3 fun c o c1 c2 c3 c4 e => k3 c o c1 c2 c3 c4 (keep c o c1 c2 c3 c4 e)
    · exact (hs2.2 z O.zd).trans a1
    · exact keep TI _ O.TId D.TIz D.TIi1 D.TIi2 hTI
    · exact a3.at fun o e => (hs2.2 i1 O.i1d).trans e
    · exact a4.at fun o e => (hs2.2 i2 O.i2d).trans e
    · obtain ⟨o, ho, r⟩ := hl1
      exact ⟨o, keep l1 o O.l1d D.l1z D.l1i1 D.l1i2 ho, r⟩
    · obtain ⟨o, ho, r⟩ := hl2
      exact ⟨o, keep l2 o O.l2d D.l2z D.l2i1 D.l2i2 ho, r⟩
    · obtain ⟨key', x1, x2, x3⟩ := hp (j + 1) q (by simpa using e)
      exact ⟨key', by rw [show i + 1 + j = i + (j + 1) by (first | lia | omega)]; exact x1, by rw [show i + 1 + j = i + (j + 1) by (first | lia | omega)]; exact x2, x3⟩
    · rw [show i + 1 + ps.length = i + (ps.length + 1) by (first | lia | omega)]
      exact hend
theorem zip_loop0 {d z TI TO i1 i2 l1 l2 : Addr} {xs ys : Array Value} {a b : Value} (hA : A.handled = none) (D : ZipApart z TI TO i1 i2 l1 l2) (zd : z ≠ d) (TId : TI ≠ d) (TOd : TO ≠ d) (i1d : i1 ≠ d) (i2d : i2 ≠ d) (l1d : l1 ≠ d) (l2d : l2 ≠ d) (ps : List (K × Value)) (s : Shared) (t : Tok) (R : Result → Shared → Prop)
    (hz : IsZip s.heap z TI TO .none) (hTI : IsPair s.heap TI (.ref i1) (.ref i2)) (hTO : IsPair s.heap TO a b) (h1 : s.heap.IsListIter i1 l1 0) (h2 : s.heap.IsListIter i2 l2 0) (hl1 : s.heap.IsList l1 xs) (hl2 : s.heap.IsList l2 ys)
    (hp : ∀ (j : Nat) (p : K × Value), ps[j]? = some p → ∃ key : Value, xs[j]? = some key ∧ ys[j]? = some p.2 ∧ knd.is p.1 key = true) (hend : xs[ps.length]? = none ∨ ys[ps.length]? = none)
    (hd : s.heap.DictOf knd d []) (hsz : ps.length ≤ sizeLine)
    (hR : ∀ h' tk, h'.DictOf knd d (putAll [] ps) → (∀ b o, b ≠ d → b ≠ z → b ≠ TO → b ≠ i1 → b ≠ i2 → s.heap.get? b = some o → h'.get? b = some o) → R (.ok (.ret .none)) { s with heap := h', toks := tk }) :
    codeAny (model prog w) A (.builtin "dict.update.loop" ⟨[.ref d, .ref z, .int (0 : Nat) t, .none], []⟩) R s := by
  cases ps with
  | nil =>
    refine codeAny_builtin entry_uloop ?_
    unfold Builtin.«dict.update.loop»
    dsimp only
    refine wpAny_bind (wpAny_pyNext_zip_end hA D hz hTI hTO h1 h2 hl1 hl2 hend fun h' eb => ?_)
    show wpAny _ _ (Builtin.Dict.addKeywords d [] >>= _) _ _ _
    refine wpAny_bind (wpAny_pure (wpAny_pure ?_))
    exact hR h' s.toks (let ⟨o, es, ep, ho, r⟩ := hd; ⟨o, es, ep, eb d o (Ne.symm zd) (Ne.symm TOd) (Ne.symm i1d) (Ne.symm i2d) ho, r⟩) fun b o _ b1 b2 b3 b4 e => eb b o b1 b2 b3 b4 e
  | cons p ps =>
    obtain ⟨key, hx, hy, hk⟩ := hp 0 p rfl
    have hI2 := h2
    refine codeAny_builtin entry_uloop ?_
    unfold Builtin.«dict.update.loop»
    dsimp only
    refine wpAny_bind (wpAny_pyNext_zip_item D hz hTI hTO h1 h2 hl1 hl2 hx hy fun h' a1 a2 a3 a4 a5 a6 a7 => ?_)
    dsimp only
    refine wpAny_bind (wpAny_holding (wpAny_bind ?_))
    have hTy : ({ s with heap := h' } : Shared).TypeIs (.ref s.heap.objs.size) "tuple" := ⟨_, a5, rfl⟩
    refine wpAny_tryCatch (wpAny_bind (wpAny_typeOf hTy ?_))
    rw [if_pos (by decide)]
    refine wpAny_bind (wpAny_bind (wpAny_load a5 (wpAny_pure ?_)))
    refine wpAny_pure ?_
    show wpAny _ _ (holding [key, p.2] (dictSet d key p.2)) _ _ _
    have dlt : d < s.heap.objs.size := by obtain ⟨o, _, _, ho, _⟩ := hd; exact Heap.lt_size ho
    have hd' : h'.DictOf knd d [] := let ⟨o, es, ep, ho, r⟩ := hd; ⟨o, es, ep, a7 d o (Ne.symm zd) (Ne.symm TOd) (Ne.symm i1d) (Ne.symm i2d) ho, r⟩
    refine wpAny_holding (wpAny_dictSet_pairs (s := { s with heap := h' }) hk hd' (fun h2 hd2 hs2 => ?_) (by rw [List.length_cons] at hsz; simp only [List.length_nil]; (first | lia | omega)))
    refine wpAny_pure ⟨Code.quiet_builtin _ (by decide +kernel), ?_⟩
    have keep : ∀ c o, c ≠ d → c ≠ z → c ≠ TO → c ≠ i1 → c ≠ i2 → s.heap.get? c = some o → h2.get? c = some o := fun c o c1 c2 c5 c3 c4 e => (hs2.2 c c1).trans (a7 c o c2 c5 c3 c4 e)
    have ls := len_stored ([] : List (K × Value)) p.1 p.2
    rw [List.length_cons] at hsz hend
    have lt : ∀ {c : Addr} {o : Obj}, s.heap.get? c = some o → s.heap.objs.size ≠ c := fun e => Nat.ne_of_gt (Heap.lt_size e)
    have O : ZipOff d z TI s.heap.objs.size i1 i2 l1 l2 := ⟨zd, TId, i1d, i2d, l1d, l2d, Nat.ne_of_gt dlt, lt hz, by obtain ⟨_, e, _⟩ := h1; exact lt e, by obtain ⟨_, e, _⟩ := hI2; exact lt e⟩
    refine zip_loop (xs := xs) (ys := ys) (T := s.heap.objs.size) hA D O ps 1 { s with heap := h2, toks := s.toks + 1 } _ (stored [] p.1 p.2) false R ?_ ⟨_, (hs2.2 _ (Nat.ne_of_gt dlt)).trans a5⟩ ?_ ?_ ?_ ?_ ?_ (fun j q e => ?_) ?_ hd2 (by rw [List.length_nil] at ls; (first | lia | omega)) fun h3 tk hd3 k3 => hR h3 tk hd3 fun c o c1 c2 c5 c3 c4 e => k3 c o c1 c2 c3 c4 (keep c o c1 c2 c5 c3 c4 e)
    · exact (hs2.2 z zd).trans a1
    · exact keep TI _ TId D.TIz D.TITO D.TIi1 D.TIi2 hTI
    · exact a3.at fun o e => (hs2.2 i1 i1d).trans e
    · exact a4.at fun o e => (hs2.2 i2 i2d).trans e
    · obtain ⟨o, ho, r⟩ := hl1
      exact ⟨o, keep l1 o l1d D.l1z D.l1TO D.l1i1 D.l1i2 ho, r⟩
    · obtain ⟨o, ho, r⟩ := hl2
      exact ⟨o, keep l2 o l2d D.l2z D.l2TO D.l2i1 D.l2i2 ho, r⟩
    · obtain ⟨key', x1, x2, x3⟩ := hp (j + 1) q (by simpa using e)
      exact ⟨key', by rw [show 1 + j = j + 1 by (first | lia | omega)]; exact x1, by rw [show 1 + j = j + 1 by (first | lia | omega)]; exact x2, x3⟩
    · rw [show 1 + ps.length = ps.length + 1 by (first | lia | omega)]
      exact hend
end
end L2

set_option maxHeartbeats 1000000
namespace L2
open PySem PySem.Spec PyProof.Rows
theorem zip_keys_miss : typeLookup (.type "zip") "keys" = pure none := by rw [typeLookup_type, builtinLookup_eq_fast]; kernel_rfl
theorem am_zip_getattr_none : typeLookup (.type "zip") "__getattr__" = pure none := by rw [typeLookup_type, builtinLookup_eq_fast]; kernel_rfl
theorem am_entry_zip_getattribute : entryFor table "zip.__getattribute__" = some Builtin.«object.__getattribute__» :=
  entryFor_alias (id' := "object.__getattribute__") (by kernel_rfl) (by decide +kernel) (by decide +kernel) (by kernel_rfl)
theorem meets_miss_zip (a : Addr) (vs : Array Value) (u : Tok) :
    Meets (Builtin.«object.__getattribute__» ⟨[.ref a, .str "keys" u], []⟩) (fun A R s => s.heap.get? a = some { cls := .type "zip", dict := none, data := .fields vs, slots := #[] } ∧ raisesAttr (.ref a) "keys" A R s) :=
  Meets.of_wp fun prog w A R s hs => by
    obtain ⟨hp, g, d, tk, os⟩ := s
    obtain ⟨hx, hs⟩ := hs
    have hT : (⟨hp, g, d, tk, os⟩ : Shared).TypeIs (.ref a) "zip" := ⟨_, hx, rfl⟩
    have hmiss := zip_keys_miss
    have hname : (["__module__", "__name__", "__qualname__", "__doc__", "__annotations__"] : List Str).contains "keys" = false := by decide
    unfold Builtin.«object.__getattribute__»
    repeat (any_goals (first | assumption | wp_step))
    try simp only [hname, Bool.false_eq_true, if_false]
    repeat (any_goals (first | assumption | wp_step))
    exact wpAny_raiseAttrError hs.1 hs.2 (attrMsg_fits (by decide +kernel) (by decide))
theorem no_keys_zip {prog : Program} {w : World} {A : Around} {E : Value → Shared → Prop} {s : Shared} {a : Addr} {vs : Array Value} {Q : Option Value → Shared → Prop}
    (hx : s.heap.get? a = some { cls := .type "zip", dict := none, data := .fields vs, slots := #[] }) (hA : A.handled = none)
    (h : ∀ h' tk, (∀ b o, s.heap.get? b = some o → h'.get? b = some o) → Q none { s with heap := h', toks := tk }) : wpAny (model prog w) A (getAttr? (.ref a) "keys") Q E s := by
  obtain ⟨hp, g, d, tk, os⟩ := s
  have hT : ∀ tk', (⟨hp, g, d, tk', os⟩ : Shared).TypeIs (.ref a) "zip" := fun _ => ⟨_, hx, rfl⟩
  have f1 := sub_AttributeError
  have f3 := PySem.F.slot_zip_getattribute.lookup
  have f4 := PySem.F.slot_zip_getattribute.bind (.ref a)
  have f5 := am_zip_getattr_none
  unfold getAttr? getAttrBy? getAttrBy
  repeat (any_goals (first | assumption | exact hT _ | ((with_reducible show wpAny _ _ (call (Value.builtin "zip.__getattribute__") _ _) _ _ _); refine call_meets PySem.F.slot_zip_getattribute (hT _) am_entry_zip_getattribute (PySem.F.args_zip_getattribute_2 _ _) (meets_miss_zip a vs _) ⟨hx, hA, fun h' tk' e hx' => ?_⟩) | wp_step))
  obtain ⟨t', u', he⟩ := hx'.there
  show wpAny _ _ (getattributeRaised _ _ _ _ _ _ _) _ _ _
  unfold getattributeRaised
  repeat (any_goals (first | assumption | wp_step))
  exact h _ _ hx'.of.keeps
section
variable {prog : Program} {w : World} {K : Type} [DecidableEq K] {knd : KeyKind prog w K} {A : Around}
theorem call_dict_zip {E : Value → Shared → Prop} {s : Shared} {l1 l2 : Addr} {xs ys : Array Value} {Q : Value → Shared → Prop} (hA : A.handled = none) (ps : List (K × Value)) (hl1 : s.heap.IsList l1 xs) (hl2 : s.heap.IsList l2 ys)
    (hp : ∀ (j : Nat) (p : K × Value), ps[j]? = some p → ∃ key : Value, xs[j]? = some key ∧ ys[j]? = some p.2 ∧ knd.is p.1 key = true) (hend : xs[ps.length]? = none ∨ ys[ps.length]? = none) (hz : ps.length ≤ sizeLine)
    (h : ∀ h' tk d, s.heap.objs.size ≤ d → h'.DictOf knd d (putAll [] ps) → (∀ b o, s.heap.get? b = some o → h'.get? b = some o) → Q (.ref d) { s with heap := h', toks := tk }) :
    wpAny (model prog w) A (call (.type "zip") [.ref l1, .ref l2]) (fun v s1 => wpAny (model prog w) A (call (.type "dict") [v]) Q E s1) E s := by
  refine call_zip_2 hl1 hl2 fun h0 hZ hTI hTO hi1 hi2 hsz k0 => ?_
  have lt1 : l1 < s.heap.objs.size := by obtain ⟨o, ho, _⟩ := hl1; exact Heap.lt_size ho
  have lt2 : l2 < s.heap.objs.size := by obtain ⟨o, ho, _⟩ := hl2; exact Heap.lt_size ho
  refine callType_codes (Q₁ := fun obj s₁ => obj = .ref h0.objs.size ∧ s₁ = { s with heap := h0.push { cls := .type "dict", data := .dict #[] } }) PySem.F.kt_called_dict (PySem.F.kt_typeCall_dict_1 _) PySem.F.entry_dict_init (kt_code_dict_new _ ⟨rfl, rfl⟩) ?_
  rintro obj s₁ ⟨rfl, rfl⟩
  have hnew : (h0.push { cls := .type "dict", data := .dict #[] }).DictOf knd h0.objs.size [] := Heap.DictOf.new h0
  have hZ1 := Heap.get?_push_of_some { cls := .type "dict", data := .dict #[] } hZ
  refine ⟨hnew.typeIs, PySem.F.args_dict_init_2 _ _, ?_⟩
  unfold Builtin.«dict.__init__»
  refine wpAny_bind ?_
  unfold Builtin.Dict.selfAndRest
  refine wpAny_bind (wpAny_notOrdered_dict hnew.typeIs ?_)
  show wpAny _ _ (pure (h0.objs.size, [Value.ref (s.heap.objs.size + 4)])) _ _ _
  refine wpAny_pure ?_
  show wpAny _ _ (Builtin.Dict.updateFrom "dict.__init__" h0.objs.size (.ref (s.heap.objs.size + 4)) [] .none) _ _ _
  unfold Builtin.Dict.updateFrom
  refine wpAny_bind (wpAny_typeOf (T := "zip") ⟨_, hZ1, rfl⟩ ?_)
  rw [if_pos (by decide)]
  refine wpAny_bind (no_keys_zip hZ1 hA fun h' tk kp => ?_)
  rw [if_pos (by decide)]
  refine wpAny_bind (wpAny_rule (wpAny_bind ?_))
  have up : ∀ b o, h0.get? b = some o → h'.get? b = some o := fun b o e => kp _ _ (Heap.get?_push_of_some _ e)
  refine wpAny_pyIter_zip (up _ _ hZ) ?_
  refine wpAny_pure ⟨Code.quiet_builtin _ (by decide +kernel), ?_⟩
  have D : ZipApart (s.heap.objs.size + 4) (s.heap.objs.size + 2) (s.heap.objs.size + 3) s.heap.objs.size (s.heap.objs.size + 1) l1 l2 := by
    constructor <;> (simp only [Addr] at *; (first | lia | omega))
  refine zip_loop0 (knd := knd) (xs := xs) (ys := ys) (d := h0.objs.size) (A := A.in1) hA D (by rw [hsz]; simp only [Addr] at *; (first | lia | omega)) (by rw [hsz]; simp only [Addr] at *; (first | lia | omega)) (by rw [hsz]; simp only [Addr] at *; (first | lia | omega)) (by rw [hsz]; simp only [Addr] at *; (first | lia | omega)) (by rw [hsz]; simp only [Addr] at *; (first | lia | omega)) (by rw [hsz]; simp only [Addr] at *; (first | lia | omega)) (by rw [hsz]; simp only [Addr] at *; (first | lia | omega)) ps { s with heap := h', toks := tk } _ _ (up _ _ hZ) (up _ _ hTI) (up _ _ hTO) (hi1.at fun o e => up _ _ e) (hi2.at fun o e => up _ _ e) ?_ ?_ hp hend ?_ hz fun h3 tk3 hd3 k3 => ?_
  · obtain ⟨o, ho, r⟩ := hl1
    exact ⟨o, up _ _ (k0 _ _ ho), r⟩
  · obtain ⟨o, ho, r⟩ := hl2
    exact ⟨o, up _ _ (k0 _ _ ho), r⟩
  · obtain ⟨o, es, ep, ho, r⟩ := hnew
    exact ⟨o, es, ep, kp _ _ ho, r⟩
  · refine ⟨rfl, h h3 tk3 _ (by rw [hsz]; exact Nat.le_add_right _ _) hd3 fun b o e => ?_⟩
    have lb : b < s.heap.objs.size := Heap.lt_size e
    refine k3 b o ?_ ?_ ?_ ?_ ?_ (up _ _ (k0 _ _ e)) <;> first | (rw [hsz]; simp only [Addr] at *; (first | lia | omega)) | (simp only [Addr] at *; (first | lia | omega))
end
end L2

set_option maxHeartbeats 1000000
namespace L2
open PySem PySem.Spec PyProof.Rows
section
variable {X : Cx}
noncomputable def tDictZip (K : PySem.W.Frag) (t : TA) : TE := fun σ H Q => t σ H fun vs H1 => ∃ (l1 l2 : Addr) (ks : List Key) (ws : List V), vs = [.ref l1, .ref l2] ∧ SqL K H1 l1 (ks.map kV) ∧ SqL K H1 l2 ws ∧ ∀ d, H1 d = none → Q (.ref d) (upd H1 d (.dK (putAllK [] (ks.zip ws))))
theorem zip_kv : ∀ {ks : List Key} {ws : List V} {us vs : List Value}, Vals (ks.map kV) us → Vals ws vs → ∃ qs : List (Key × Value), KV (ks.zip ws) qs ∧ (∀ (j : Nat) (p : Key × Value), qs[j]? = some p → ∃ key, us[j]? = some key ∧ vs[j]? = some p.2 ∧ RelV (kV p.1) key) ∧ qs.length = min us.length vs.length
  | [], ws, us, vs, hu, hv => by
    cases hu
    exact ⟨[], by rw [List.zip_nil_left]; exact .nil, fun j p e => by simp at e, by simp⟩
  | k :: ks, [], us, vs, hu, hv => by
    cases hv
    exact ⟨[], by rw [List.zip_nil_right]; exact .nil, fun j p e => by simp at e, by simp⟩
  | k :: ks, w :: ws, us, vs, hu, hv => by
    cases hu with
    | cons a1 b1 =>
      cases hv with
      | cons a2 b2 =>
        obtain ⟨qs, c1, c2, c3⟩ := zip_kv b1 b2
        refine ⟨(k, _) :: qs, .cons ⟨rfl, a2⟩ c1, fun j p e => ?_, by simp only [List.length_cons, c3]; (first | lia | omega)⟩
        cases j with
        | zero =>
          simp at e
          subst e
          exact ⟨_, rfl, rfl, a1⟩
        | succ j => exact c2 j p (by simpa using e)
theorem pe_dictzip {a b : Expr} {t : TA} {p1 p2 pos pos2 : Pos} (hc : X.calm = true) (hgd : Gl X "dict") (hmd : X.mg "dict" = none) (hgz : Gl X "zip") (hmz : X.mg "zip" = none) (ha : PA X [a, b] t)
    (he : starEach [a, b] X.env = (false, eval a X.env) :: starEach [b] X.env := by rfl) (hpl : (backTo pos2 (starEach [b] X.env)).any (·.1) = false := by rfl) :
    PE X (.Call (.Name "dict" p1) [.Call (.Name "zip" p2) [a, b] [] pos2] [] pos) (tDictZip X.K t) := by
  intro pins s σ H Q I h
  refine wpAny_Call_Name_kw (ld_blt I hgd hmd (u := .type "dict") rfl ?_)
  refine PyProof.Rows.callWith_type1 ?_ rfl rfl
  show wpAny _ _ (spliced ((false, eval (.Call (.Name "zip" p2) [a, b] [] pos2) X.env) :: [])) _ _ _
  refine Calls.spliced_cons ?_
  refine wpAny_Call_Name_kw (ld_blt I hgz hmz (u := .type "zip") boot_zip ?_)
  refine PyProof.Rows.callWith_type1 (thn (ha pos2 pins s σ H _ I h) fun us s1 ⟨vs, H1, I1, r1, q1⟩ => ?_) he hpl
  obtain ⟨l1, l2, ks, ws, rfl, e1, e2, q⟩ := q1
  obtain ⟨u1, u2, rfl, ru1, ru2⟩ := vals2 r1
  obtain rfl : u1 = Value.ref l1 := ru1
  obtain rfl : u2 = Value.ref l2 := ru2
  obtain ⟨i1, v1, P1, z1⟩ := I1.list e1
  obtain ⟨i2, v2, P2, z2⟩ := I1.list e2
  obtain ⟨qs, hkv, hget, hlen⟩ := zip_kv v1 v2
  have lq : qs.length = (ks.zip ws).length := (Paired.length hkv).symm
  have hz : qs.length ≤ sizeLine := by
    rw [lq, List.length_zip]
    (first | lia | omega)
  refine thn (call_dict_zip (knd := mixKind X.prog X.w) (E := X.xe) (Q := fun v s' => EP X pins σ Q v s') (I.ok.hd hc) qs P1.isList P2.isList (fun j p e => ?_) ?_ hz fun h' tk d hd dd k => ?_) fun v s2 hv => Calls.spliced_nil hv
  · obtain ⟨key, x1, x2, x3⟩ := hget j p e
    exact ⟨key, by simpa using x1, by simpa using x2, kV_key x3⟩
  · rw [hlen]
    by_cases hh : i1.length ≤ i2.length
    · exact .inl (by simp [Nat.min_eq_left hh])
    · exact .inr (by simp; (first | lia | omega))
  · have hf : H1 d = none := I1.hok.fresh hd
    refine ⟨.ref d, upd H1 d (.dK (putAllK [] (ks.zip ws))), I1.laid (t' := tk) k hd (dk_new ?_ (beq_eq_false_iff_ne.mpr (Nat.ne_of_gt (Nat.lt_of_lt_of_le I1.big hd))) (KV.putAll hkv .nil) dd), rfl, q d hf⟩
    have z := len_putAllK (ks.zip ws) []
    rw [← lq, List.length_nil] at z
    (first | lia | omega)
end
end L2

set_option maxHeartbeats 1000000
namespace L2
open PySem PySem.Spec PyProof.Rows
section
variable {X : Cx} {e st : Expr} {te : TE} {lo hi : Option Expr} {tl th ts : TO} {pos p2 : Pos}
theorem rg_ask {lo : Int} {n i : Nat} {H : Hp} {A : Prop} {B : V → Hp → Prop} (hi : i ≤ n) (hs : i < n → B (.int (lo + i)) H) (hd : i = n → A) :
    ((Itr lo n).stop i H ∧ A) ∨ ((Itr lo n).go i H ∧ ∀ x H', (Itr lo n).yld i H x H' → B x H') := by
  by_cases hlt : i < n
  · refine .inr ⟨hlt, fun x H' y => ?_⟩
    obtain ⟨rfl, rfl⟩ := y
    exact hs hlt
  · exact .inl ⟨by show n ≤ i; (first | lia | omega), hd (by (first | lia | omega))⟩
theorem ints_items : ∀ {ns : List Int} {its : List Value}, Vals (ns.map V.int) its → ∃ xs : List (Int × Tok), its = xs.map fun p => Value.int p.1 p.2
  | [], its, h => by cases h; exact ⟨[], rfl⟩
  | n :: ns, its, h => by
    cases h with
    | cons a b =>
      obtain ⟨t, rfl⟩ := a
      obtain ⟨xs, rfl⟩ := ints_items b
      exact ⟨(n, t) :: xs, rfl⟩
noncomputable def rSumW (K : PySem.W.Frag) (xs : List V) (H : Hp) (Q : VK) : Prop := ∃ (l : Addr) (ns : List Int), xs = [.ref l] ∧ SqL K H l (ns.map V.int) ∧ ∀ z : Int, Q (.int z) H
theorem call_sumW (hc : X.calm = true) : CallR X (.builtin "sum") (rSumW X.K) := by
  intro pins s σ H xs us Q I r h
  obtain ⟨l, ns, rfl, hl, q⟩ := h
  obtain ⟨u, rfl, ru⟩ := vals1 r
  obtain rfl : u = Value.ref l := ru
  obtain ⟨its, v, P1, z1⟩ := I.list hl
  obtain ⟨ys, rfl⟩ := ints_items v
  have hl' : s.heap.IsList l (intItems ys.toArray) := by
    have := P1.isList
    rw [show (ys.map fun p => Value.int p.1 p.2).toArray = intItems ys.toArray by unfold intItems; simp] at this
    exact this
  exact sum_intListG (I.ok.hd hc) hl' fun h' tk t' hk => ⟨.int _, H, I.kept (t' := tk) hk, ⟨t', rfl⟩, q _⟩
end
end L2

set_option maxHeartbeats 1000000
namespace L2
open PySem PySem.Spec PyProof.Rows
section
variable {X : Cx} {pins : List (Addr × Obj)} {σ : List (Option V)} {H H' : Hp} {s : Shared} {h' : Heap}
end

section
variable {X : Cx} {elts : List Expr} {kk : Nat} {pt : Pos}
end
end L2

set_option maxHeartbeats 1000000
namespace L2
open PySem PySem.Spec PyProof.Rows
section
variable {X : Cx} {o i : Expr} {pos : Pos} {td ty : TE}
end
section
variable {X : Cx} {k : Nat} {f C : Addr} {fd : FuncData} {ps : List Str} {sp : Sp} {dvs : List V} {ds : List Value} {m : Str} {p pos apos epos cpos : Pos} {e o : Expr} {es : List Expr} {ta : TE} {t : TA}
variable {te : XK → TE} {cx n : Str} {np hpos tpos wpos : Pos} {i j : Nat} {b₀ : Stmt} {suite : List Stmt} {ts : TS} {Cc : Addr} {call : Expr}
end
end L2

set_option maxHeartbeats 1000000
namespace L2
open PySem PySem.Spec PyProof.Rows
end L2

set_option maxHeartbeats 1000000
namespace L2
open PySem PySem.Spec PyProof.Rows
section
variable {prog : Program} {w : World} {A : Around} {R : Result → Shared → Prop} {I S : Addr} {fp wr : List Addr} {n : Nat} {P : Nat → Value → Prop} {St : Nat → Heap → Prop} {kw : List (Str × Value)} {bt : Nat → Nat → Bool}
end
section
variable {X : Cx}
end
end L2

set_option maxHeartbeats 1000000
namespace L2
open PySem PySem.Spec PyProof.Rows
section
variable {X : Cx} {pins : List (Addr × Obj)} {σ : St} {H : Hp} {s : Shared}

variable {elt iter tg : Expr} {ifs : List Expr} {scope : Scope} {pos : Pos} {own capn : List Str} {capI : List Nat} {wi : TI} {g : TG} {tt : TT} {te : TE}
end
end L2

set_option maxHeartbeats 1000000
namespace L2
open PySem PySem.Spec PyProof.Rows
section
variable {X : Cx} {pins : List (Addr × Obj)} {σ : St} {H : Hp} {s : Shared} {a : Addr} {u : HO} {o : Obj}
end
section
variable {prog : Program} {w : World} {A : Around} {E : Value → Shared → Prop} {sh : Shared} {ic dc : Addr} {i ep : Nat} {od : Obj} {es : Array DictEntry} {Q : Option Value → Shared → Prop}
end
section
variable {X : Cx} {tg : Expr}
end
end L2



set_option maxHeartbeats 1000000
namespace L2
open PySem PySem.Spec PyProof.Rows
section
variable {X : Cx} {elts : List Expr} {kk : Nat} {pt : Pos}
end
end L2

set_option maxHeartbeats 1000000
namespace L2
open PySem PySem.Spec PyProof.Rows
section
variable {X : Cx}
end
end L2

set_option maxHeartbeats 1000000
namespace L2
open PySem PySem.Spec PySem.Calls PyProof.Rows PySem.W
section
variable {prog : Program} {w : World} {A : Around} {E : Value → Shared → Prop} {s : Shared} {K : PySem.W.Frag} {x C D : Addr} {ox : Obj} {odo : Option Obj}
end
section
variable {X : Cx}
end
end L2

set_option maxHeartbeats 1000000
namespace L2
open PySem PySem.Spec PyProof.Rows
section
variable {X : Cx}
end
end L2

set_option maxHeartbeats 1000000
namespace L2
open PySem PySem.Spec PyProof.Rows PySem.Builtin PySem.Builtin.Str
section
variable {X : Cx}
variable {o i : Expr} {td ty : TE}
end
section
variable {prog : Program} {w : World} {A : Around} {E : Value → Shared → Prop} {s : Shared}
set_option maxHeartbeats 3200000 in
end
section
variable {X : Cx}
end
end L2

set_option maxHeartbeats 1000000
namespace L2
open PySem PySem.Spec PyProof.Rows
section
variable {X : Cx}
end
end L2

set_option maxHeartbeats 1000000
namespace L2
open PySem PySem.Spec PyProof.Rows
section
variable {M : Model} {A : Around} {E : Value → Shared → Prop} {s : Shared}
theorem frames_keep {h h' base : Heap} : ∀ {l : List Env}, h.FunFrames base l → (∀ b ∈ frs l, ∀ o, h.get? b = some o → ∃ o', h'.get? b = some o' ∧ o'.data = o.data) → h'.FunFrames base l
  | [], _, _ => trivial
  | env :: rest, ⟨hk, ⟨L, o, hf, hb, ho, hd⟩, hr⟩, k => by
    have e : frs (env :: rest) = L :: frs rest := by
      show List.filterMap (·.frame) (env :: rest) = _
      rw [List.filterMap_cons, hf]
      rfl
    obtain ⟨o', ho', e'⟩ := k L (by rw [e]; exact List.mem_cons_self) o ho
    exact ⟨hk, ⟨L, o', hf, hb, ho', fun vs q => hd vs (e' ▸ q)⟩, frames_keep hr fun b hb => k b (by rw [e]; exact List.mem_cons_of_mem _ hb)⟩
theorem note_any {base : Heap} {env : Env} {outer : List Env} {L e T0 : Addr} {cls fl : Value} {dct : Option Addr} {Q : Unit → Shared → Prop}
    (hfr : A.frames = some (env :: outer)) (hl : s.heap.FunFrames base (env :: outer)) (hf : env.frame = some L) (ht : FlyAt s.heap e T0 cls dct fl)
    (h : ∀ h' T, (∀ b o, b ≠ e → b ≠ T0 → b ∉ frs (env :: outer) → s.heap.get? b = some o → h'.get? b = some o) → (∀ b o, b ≠ e → b ≠ T0 → s.heap.get? b = some o → ∃ sl, h'.get? b = some { o with slots := sl }) → (T = T0 ∨ s.heap.objs.size ≤ T) →
      FlyAt h' e T cls dct (rawInt L) → Q () { s with heap := h' }) : wpAny M A (noteFrame (.ref e) env) Q E s := by
  obtain ⟨oe, vs, oT, ts, he, rfl, rfl, hd, h1, ne, hT, hdT, h3⟩ := ht
  unfold noteFrame
  simp only [hf]
  refine wpAny_bind (wpAny_field he hd h1 ?_)
  rw [if_pos (show (Value.ref T0 != Value.none) = true from by simp)]
  refine wpAny_bind (wpAny_field hT hdT h3 ?_)
  by_cases hfl : (fl == rawInt L) = true
  · rw [if_pos hfl]
    have e1 : fl = rawInt L := by simpa using hfl
    subst e1
    exact wpAny_pure (h s.heap T0 (fun b o _ _ _ q => q) (fun b o _ _ q => ⟨o.slots, q⟩) (.inl rfl) ⟨oe, vs, oT, ts, he, rfl, rfl, hd, h1, ne, hT, hdT, h3⟩)
  rw [if_neg hfl]
  refine wpAny_bind (wpAny_setField hT hdT (Array.getElem?_eq_some_iff.mp h3).1 ?_)
  have oth : ∀ b, b ≠ T0 → (s.heap.update T0 (Obj.mapFields (·.setIfInBounds 3 Value.none))).get? b = s.heap.get? b := fun b hb => Heap.get?_update_other _ _ (Ne.symm hb)
  have nrec : ∀ b o, s.heap.get? b = some o → (∀ vs, o.data ≠ .fields vs) → b ≠ T0 := fun b o hb hnf q => by
    rw [q, hT] at hb
    cases hb
    exact hnf ts hdT
  have hl' : (s.heap.update T0 (Obj.mapFields (·.setIfInBounds 3 Value.none))).FunFrames base (env :: outer) := hl.of_keeps fun b o hb hnf => ⟨o, (oth b (nrec b o hb hnf)).trans hb, rfl⟩
  refine entry_x (s := { s with heap := s.heap.update T0 (Obj.mapFields (·.setIfInBounds 3 Value.none)) }) hfr hl' hf ((oth e (Ne.symm ne)).trans he) hd (Array.getElem?_eq_some_iff.mp h1).1 fun h' T N F => ?_
  exact h h' T (fun b o b1 b2 b3 q => N.keep b o b1 b3 ((oth b b2).trans q)) (fun b o b1 b2 q => N.slot b o b1 ((oth b b2).trans q)) (.inr (Nat.le_trans (Nat.le_of_eq (Heap.size_after_update _ _ _).symm) N.new)) F
theorem pass_on {e T : Addr} {cls fl : Value} {dct : Option Addr} {what : String} {cenv : Env} {Q : Value → Shared → Prop} (F : FlyAt s.heap e T cls dct fl)
    (h : ∀ h' fl', (∀ b o, b ≠ T → s.heap.get? b = some o → h'.get? b = some o) → h'.objs.size = s.heap.objs.size → FlyAt h' e T cls dct fl' → E (.ref e) { s with heap := h' }) : wpAny M A (PySem.passOn what (.ref e) cenv : Sem Value) Q E s := by
  obtain ⟨oe, vs, oT, ts, he, hc, hdx, hd, h1, ne, hT, hdT, h3⟩ := F
  unfold PySem.passOn setFlight
  have hsz : 3 < ts.size := (Array.getElem?_eq_some_iff.mp h3).1
  refine wpAny_bind (wpAny_field he hd h1 ?_)
  rw [if_neg (show ¬ (Value.ref T == Value.none) = true from by simp)]
  refine wpAny_bind (wpAny_bind (wpAny_field he hd h1 ?_))
  rw [if_pos (show (Value.ref T != Value.none) = true from by simp)]
  refine wpAny_setField hT hdT hsz ?_
  refine wpAny_throw ?_
  refine h _ (cenv.frame.elim .none fun f => rawInt f) (fun b o hb q => ?_) (Heap.size_after_update _ _ _) ?_
  · rw [Heap.get?_update_other _ _ (Ne.symm hb)]
    exact q
  · refine ⟨oe, vs, _, _, ?_, hc, hdx, hd, h1, ne, Heap.get?_update_self _ hT (Obj.isFreed_of_fields (Obj.data_mapFields hdT _)), Obj.data_mapFields hdT _, by simp [hsz]⟩
    rw [Heap.get?_update_other _ _ ne]
    exact he
end
noncomputable def XeR (B : Cx) (E : XK) : Value → Shared → Prop := fun ev s' => ∃ (pins : List (Addr × Obj)) (σ : St) (H : Hp) (s : Shared), Inv B pins σ H s ∧ CX1 B.prog B.w B.stack H s E ev s'
theorem passR {B : Cx} {E : XK} : Passes (CX1 B.prog B.w) (B.wish (XeR B E)) E := fun pins σ H s ev s' I h => ⟨pins, σ, H, s, I.unwish, h⟩
noncomputable def HandsOn (X : Cx) (E : XK) : Prop := ∀ (scope : Scope) (N : List Str) (cl : List (Str × Addr)) (fp : List Addr) (pins : List (Addr × Obj)) (σ : St) (H : Hp) (s : Shared) (ev : Value) (s' : Shared) (Q : Value → Shared → Prop) (acc : Value), Inv X pins σ H s → (∀ b ∈ fp, FpOk X pins H b) → XeR (X.blk scope N cl s.heap.objs.size s H fp pins) E ev s' →
  notedBy (model X.prog X.w) X.A (compEnvC scope cl s.heap.objs.size X.env) (fun e s'' => compPost (model X.prog X.w) X.A X.xe none Q acc s.heap.objs.size (.error e) s'') ev s'
section
variable {X : Cx} {elt iter tg : Expr} {ifs : List Expr} {scope : Scope} {pos : Pos} {own capn : List Str} {capI : List Nat} {wi : TI} {g : TG} {tt : TT} {te : TE}
end
section
variable {X : Cx} {pins : List (Addr × Obj)} {σ : St} {H : Hp} {s : Shared} {h' : Heap}
theorem left_ok2 (I : Inv X pins σ H s) (hex : X.ex = []) (bad : List Addr) (hb : ∀ b ∈ bad, X.s₀.heap.get? b = none ∧ H b = none)
    (k1 : ∀ b o, b ∉ bad → b ∉ frs X.stack → s.heap.get? b = some o → h'.get? b = some o) (k2 : ∀ b o, b ∉ bad → s.heap.get? b = some o → ∃ sl, h'.get? b = some { o with slots := sl }) : Un X.fs [] X.H₀ H X.s₀.heap h' ∧ HOk X.prog X.w H h' := by
  have B := I.base
  rw [hex] at B
  have nb : ∀ b o, X.s₀.heap.get? b = some o → b ∉ bad := fun b o q z => by
    rw [(hb b z).1] at q
    cases q
  have nL : ∀ b o, X.s₀.heap.get? b = some o → b ≠ X.env.locals := fun b o q => Nat.ne_of_lt (Nat.lt_of_lt_of_le (Heap.lt_size q) I.ok.above)
  have e0 : ∀ b : Addr, b ∉ ([] : List Addr) := fun b => by simp
  refine ⟨⟨fun b o q n hf _ => ?_, fun b o q n hf _ => ?_, B.free, fun b o q _ => ?_, B.tups, B.frzs, B.tbls⟩, fun a u q => ?_⟩
  · refine k1 b o (nb b o q) (fun z => ?_) (B.keep b o q n hf (e0 b))
    rcases List.mem_cons.mp (I.stkSub b z) with z | z
    · exact nL b o q z
    · exact hf z
  · obtain ⟨sl, q1⟩ := B.slot b o q n hf (e0 b)
    obtain ⟨sl', q2⟩ := k2 b _ (nb b o q) q1
    exact ⟨sl', q2⟩
  · obtain ⟨o1, q1⟩ := B.there b o q (e0 b)
    obtain ⟨sl', q2⟩ := k2 b _ (nb b o q) q1
    exact ⟨_, q2⟩
  · have tr : ∀ b v, H b = some v → b ∉ bad ∧ b ∉ frs X.stack := fun b v z => ⟨(fun y => absurd ((hb b y).2.symm.trans z) (by simp)), fun y => absurd ((I.stkFree b y).symm.trans z) (by simp)⟩
    refine (I.hok a u q).stay (fun b v hbv z => ?_) (fun _ z => z) fun _ _ z => z
    rcases hbv with rfl | hbv
    · exact k1 b v (tr b _ q).1 (tr b _ q).2 z
    · exact k1 b v (tr b _ hbv).1 (tr b _ hbv).2 z
end
section
variable {P : Program} {w : World} {K : PySem.W.Frag} {mg : Str → Option Value} {base : Heap} {N : List Str} {qual : Str} {scope : Scope} {f : Addr} {cd : Value} {A : Around} {outer : List Env} {s₀ : Shared} {H₀ : Hp} {E : XK}
theorem handsOn1 : HandsOn (cx1 P w K mg base N qual scope f cd A outer s₀ H₀ E) E := by
  intro scope' N' cl fp pins σ H s ev s' Q acc I3 hf z
  obtain ⟨pins1, σ1, H1, s1, I1, e, T0, cls, dct, H', rfl, os, bare, un, hok, F0, hne, hnT, hHe, hHT, q⟩ := z
  have I' := I1.call' (ch := []) os un hok bare fun b z => absurd z (by simp)
  have J1 := blk_end I3 hf (Inv.unpinned (pins := []) (pl := pins1) I1) (Heap.SameBut.refl _ _)
  have J := blk_end I3 hf (Inv.unpinned (pins := []) (pl := pins1) I') (Heap.SameBut.refl _ _)
  obtain ⟨m, hm, _⟩ := id I'.loc
  obtain ⟨m1, hm1, _⟩ := id I1.loc
  have hC1 : ∃ o, s1.heap.get? s.heap.objs.size = some o := by
    obtain ⟨o, _, _, ho, _⟩ := hm1
    exact ⟨o, ho⟩
  have hCe : s.heap.objs.size ≠ e := fun z => by
    obtain ⟨o, ho⟩ := hC1
    rw [z, hne] at ho
    cases ho
  have hCT : s.heap.objs.size ≠ T0 := fun z => by
    obtain ⟨o, ho⟩ := hC1
    rw [z, hnT] at ho
    cases ho
  have hCf : s.heap.objs.size ∉ frs (envOfC qual scope s₀.heap.objs.size f cd :: outer) := fun z => by
    obtain ⟨_, o, ho, _⟩ := I3.stack.mem z
    exact absurd (Heap.lt_size ho) (Nat.lt_irrefl _)
  have old : ∀ b, s1.heap.get? b = none → s₀.heap.get? b = none := fun b z => by
    cases q1 : s₀.heap.get? b with
    | none => rfl
    | some o =>
      obtain ⟨o', q2⟩ := J1.base.there b o q1 (show b ∉ ([] : List Addr) by simp)
      have q3 : s1.heap.get? b = some o' := q2
      rw [z] at q3
      cases q3
  show wpAny _ _ (noteFrame (.ref e) (envOfC qual scope s₀.heap.objs.size f cd)) _ _ s'
  refine note_next (base := base) (L := s₀.heap.objs.size) J.ok.frames J.stack rfl F0 fun h1 T k1 k2 bT F k3 => ?_
  obtain ⟨o, es, ep, ho, rest⟩ := hm
  have hCl : s.heap.objs.size < s'.heap.objs.size := Heap.lt_size ho
  have neT : T ≠ s.heap.objs.size := Nat.ne_of_gt (Nat.lt_of_lt_of_le hCl bT)
  have hT1 : T < h1.objs.size := by
    obtain ⟨_, _, oT, _, _, _, _, _, _, _, hT, _⟩ := F
    exact Heap.lt_size hT
  refine ⟨m, ⟨o, es, ep, k1 _ o hCe hCT hCf ho, rest⟩, fun h2 sb cenv hcl => ?_⟩
  have F' : FlyAt h2 e T cls dct (rawInt s₀.heap.objs.size) := by
    obtain ⟨oe, vs, oT, ts, he, a1, a2, a3, a4, a5, hT, a6, a7⟩ := F
    exact ⟨oe, vs, oT, ts, (sb.2 e hCe.symm).trans he, a1, a2, a3, a4, a5, (sb.2 T neT).trans hT, a6, a7⟩
  refine pass_on (s := { s' with heap := h2 }) F' fun h3 fl kp sz F3 => ?_
  have sz3 : s'.heap.objs.size ≤ h3.objs.size := by
    have e1 : h3.objs.size = h2.objs.size := sz
    have e2 : h2.objs.size = h1.objs.size := sb.1
    have bT' : s'.heap.objs.size ≤ T := bT
    (first | lia | omega)
  have lt' : ∀ b o, s'.heap.get? b = some o → b < s'.heap.objs.size := fun b o z => Heap.lt_size z
  have neT' : ∀ b o, s'.heap.get? b = some o → b ≠ T := fun b o z => Nat.ne_of_lt (Nat.lt_of_lt_of_le (lt' b o z) bT)
  have fr3 : h3.FunFrames base (envOfC qual scope s₀.heap.objs.size f cd :: outer) := frames_keep J.stack fun b hb ob hob => by
    obtain ⟨_, ob', hob', hnf⟩ := J.stack.mem hb
    have hob2 : s'.heap.get? b = some ob := hob
    have hob3 : s'.heap.get? b = some ob' := hob'
    have ee : ob' = ob := Option.some.inj (hob3.symm.trans hob2)
    subst ee
    obtain ⟨oe, vs, oT, ts, he, _, _, hd, _, _, hT, hdT, _⟩ := F0
    have n1 : b ≠ e := fun z => by
      rw [z, he] at hob2
      cases hob2
      exact hnf vs hd
    have n2 : b ≠ T0 := fun z => by
      rw [z, hT] at hob2
      cases hob2
      exact hnf ts hdT
    have n3 : b ≠ s.heap.objs.size := fun z => hCf (z ▸ hb)
    obtain ⟨sl, q1⟩ := k2 b ob' n1 n2 hob2
    exact ⟨_, kp b _ (neT' b _ hob2) ((sb.2 b n3).trans q1), rfl⟩
  show wpAny _ _ (leaving _ _) _ _ _
  unfold leaving
  refine wpAny_bind (note_any (s := { s' with heap := h3 }) (base := base) (L := s₀.heap.objs.size) J.ok.frames fr3 rfl F3 fun h4 T4 k4 k5 bT4 F4 => ?_)
  refine flight_x (s := { s' with heap := h4 }) F4 fun h5 k6 F5 => ?_
  have ge4 : s'.heap.objs.size ≤ T4 := by
    rcases bT4 with z | z
    · rw [z]; exact bT
    · exact Nat.le_trans sz3 z
  have neT4 : ∀ b o, s'.heap.get? b = some o → b ≠ T4 := fun b o z => Nat.ne_of_lt (Nat.lt_of_lt_of_le (lt' b o z) ge4)
  have s0T : s₀.heap.objs.size ≤ T4 := Nat.le_trans J.sz ge4
  obtain ⟨u, hk⟩ := left_ok2 (h' := h5) J rfl [e, T0, s.heap.objs.size] (fun b hb => by
      rcases List.mem_cons.mp hb with z | hb
      · subst z
        exact ⟨old b hne, hHe⟩
      rcases List.mem_cons.mp hb with z | hb
      · subst z
        exact ⟨old b hnT, hHT⟩
      · have z : b = s.heap.objs.size := by simpa using hb
        subst z
        exact ⟨Heap.get?_none_of_le I3.sz, I'.free⟩)
    (fun b o b1 b2 z => by
      have n1 : b ≠ e := fun y => b1 (by simp [y])
      have n2 : b ≠ T0 := fun y => b1 (by simp [y])
      have n3 : b ≠ s.heap.objs.size := fun y => b1 (by simp [y])
      exact k6 b o (neT4 b o z) (k4 b o n1 (neT' b o z) b2 (kp b o (neT' b o z) ((sb.2 b n3).trans (k1 b o n1 n2 b2 z)))))
    (fun b o b1 z => by
      have n1 : b ≠ e := fun y => b1 (by simp [y])
      have n2 : b ≠ T0 := fun y => b1 (by simp [y])
      have n3 : b ≠ s.heap.objs.size := fun y => b1 (by simp [y])
      obtain ⟨sl, q1⟩ := k2 b o n1 n2 z
      obtain ⟨sl2, q2⟩ := k5 b _ n1 (neT' b o z) (kp b _ (neT' b o z) ((sb.2 b n3).trans q1))
      exact ⟨sl2, k6 b _ (neT4 b o z) q2⟩)
  exact ⟨e, T4, cls, dct, H', rfl, J.os, J.bare, u, hk, F5, old e hne, Heap.get?_none_of_le s0T, hHe, hok.fresh ge4, q⟩
end
end L2

set_option maxHeartbeats 1000000
namespace L2
open PySem PySem.Spec PyProof.Rows
section
variable {X : Cx} {elt iter tg : Expr} {ifs : List Expr} {scope : Scope} {pos : Pos} {own capn : List Str} {capI : List Nat} {wi : TI} {g : TG} {tt : TT} {te : TE}
theorem ps_setCX {E : XK} (HX : HandsOn X E) {i : Nat} {y : Str} {py spos : Pos} (hN : X.N.Nodup) (hi : X.N[i]? = some y) (hy : Loc X.env.scope y) (hex : X.ex = []) (hc : X.calm = true) (B : BlkScope X scope own capn capI) (hit : PI X tg iter wi) (hg : ∀ cl C s H fp pins, PG (X.blk scope (own ++ capn) cl C s H fp pins) tg g)
    (ht : ∀ cl C s H fp pins, PIfs (X.blk scope (own ++ capn) cl C s H fp pins) ifs tt) (he : ∀ cl C s H fp pins, PE ((X.blk scope (own ++ capn) cl C s H fp pins).wish (XeR (X.blk scope (own ++ capn) cl C s H fp pins) E)) elt te)
    (hs : ∀ x, foldedSetIterable iter X.env x = pure x := by intro _; rfl) (hsw : swapsWith (.ListComp elt [⟨tg, iter, ifs, 0⟩] scope pos) (some (.Name y py)) spos.line X.env = pure true := by rfl)
    (hf : X.fn y = true ∨ X.env.scope.names.lookup y = some .local := by first | exact .inl rfl | exact .inr rfl | assumption) :
    PS X (.Assign [.Name y py] (.ListComp elt [⟨tg, iter, ifs, 0⟩] scope pos) spos) (tAsg (tLC wi own.length capI g tt te) (gName i)) := by
  intro pins s σ H D0 I h
  rw [exec_Assign_Name_used _ _ _ _ hsw]
  refine wpAny_bind (wpAny_standAt (wpAny_bind ?_))
  show wpAny _ X.A (do let _ ← comprehension (.ListComp elt [⟨tg, iter, ifs, 0⟩] scope pos) scope X.env _ (newList []) false (eval iter X.env) (some (assign (.Name y py) X.env))) _ _ s
  obtain ⟨cl, hclos, hcl, hcf⟩ := closure_of (env := X.env) (scope := scope) (fun y hy hf => I.ok.has y.1 (.inl (B.free y hy hf)))
  refine wpAny_bind (wpAny_mono (wpAny_comprehension_free (use := some (assign (.Name y py) X.env)) (Q := fun _ s' => SP X pins D0 .next s') rfl hs hclos B.kind B.names (thn (hit pins s σ H _ I h) fun v s1 h1 => thn h1 fun itv s2 h2 => ?_)) (fun _ s' hq => wpAny_pure (wpAny_pure hq)) fun _ _ e => e)
  obtain ⟨it, fp, tn, J, H2, e, I2, T, st2, f2, hW⟩ := h2
  subst e
  obtain ⟨W, ⟨m0, w0⟩, turn⟩ := hW s2.heap.objs.size (I2.hok.fresh (Nat.le_refl _))
  refine wpAny_newObj_type (wpAny_newFunctionEnv B.cell (by intro y hy; simp at hy) (fun h4 hns hsb => ?_) B.kind)
  dsimp only at hns hsb ⊢
  have I3 : Inv X pins σ (upd H2 s2.heap.objs.size (.lst [])) { s2 with heap := s2.heap.push { cls := .type "list", dict := none, data := .seq ([] : List Value).toArray } } :=
    I2.laid (t' := s2.toks) (fun b u e => Heap.get?_push_of_some _ e) (Nat.le_refl _) ⟨Nat.zero_le _, [], 0, .nil, Heap.get?_push_size _ rfl⟩
  generalize hs3 : ({ s2 with heap := s2.heap.push { cls := .type "list", dict := none, data := .seq ([] : List Value).toArray } } : Shared) = s3 at I3
  have e3 : s2.heap.push { cls := .type "list", dict := none, data := .seq ([] : List Value).toArray } = s3.heap := by rw [← hs3]
  have ob2 : ∀ b ∈ fp, ∃ o, s2.heap.get? b = some o := fun b hb => let ⟨o, z, _⟩ := T.obj _ _ st2 b hb; ⟨o, z⟩
  have up3 : ∀ b o, s2.heap.get? b = some o → s3.heap.get? b = some o := fun b o z => by
    rw [← e3]
    exact Heap.get?_push_of_some _ z
  have f3 : ∀ b ∈ fp, FpOk X pins (upd H2 s2.heap.objs.size (.lst [])) b := fun b hb => by
    obtain ⟨o, z⟩ := ob2 b hb
    exact ⟨by rw [upd_ne (Nat.ne_of_lt (Heap.lt_size z))]; exact (f2 b hb).1, (f2 b hb).2⟩
  have ob3 : ∀ b ∈ fp, ∃ o, s3.heap.get? b = some o := fun b hb => let ⟨o, z⟩ := ob2 b hb; ⟨o, up3 b o z⟩
  rw [e3] at hns hsb ⊢
  have up4 : ∀ b o, s3.heap.get? b = some o → h4.get? b = some o := fun b o z => (hsb.2 b (Nat.ne_of_lt (Heap.lt_size z))).trans (Heap.get?_push_of_some _ z)
  have IB := blk_start (t' := s2.toks + ([] : List (Str × Value)).length) B I3 f3 ob3 hcl hcf hns up4
  have e4 : ({ s3 with heap := h4, toks := s2.toks + ([] : List (Str × Value)).length } : Shared) = { s2 with heap := h4, toks := s2.toks + ([] : List (Str × Value)).length } := by rw [← hs3]
  rw [e4] at IB
  have tn4 : tn 0 h4 := T.keep _ _ _ st2 fun b hb o z => up4 b o (up3 b o z)
  have fst : ∀ {H' : Hp}, (∀ b ∈ fp, H' b = none) → ∀ b ∈ fp, FpOk (X.blk scope (own ++ capn) cl s3.heap.objs.size s3 (upd H2 s2.heap.objs.size (.lst [])) fp pins) [] H' b := fun {H'} hn b hb => by
    obtain ⟨o, z⟩ := ob3 b hb
    refine ⟨hn b hb, Nat.ne_of_lt (Heap.lt_size z), fun y => ?_, .inl hb, fun x c ec => (f3 b hb).2.2.2.2.1 x c (hcl x c ec), fun p hp => (f3 b hb).2.2.2.2.2 p (by have y : p ∈ (X.pn ++ pins) ++ [] := hp; simpa using y)⟩
    rcases List.mem_cons.mp (I3.stkSub b y) with y | y
    · exact (f3 b hb).2.1 y
    · exact (f3 b hb).2.2.1 y
  have loop : codeAny (model X.prog X.w) X.A (.compLoop (.ListComp elt [⟨tg, iter, ifs, 0⟩] scope pos) 0 (.ref it) (.ref s2.heap.objs.size) (compEnvC scope cl s3.heap.objs.size X.env))
      (compPost (model X.prog X.w) X.A X.xe (some (assign (.Name y py) X.env)) (fun _ s' => SP X pins D0 .next s') (.ref s2.heap.objs.size) s3.heap.objs.size) { s2 with heap := h4, toks := s2.toks + ([] : List (Str × Value)).length } := by
    refine comp_loop (fun n s' => ∃ i σ' acc H', Inv (X.blk scope (own ++ capn) cl s3.heap.objs.size s3 (upd H2 s2.heap.objs.size (.lst [])) fp pins) [] σ' H' s' ∧ tn i s'.heap ∧ (∀ b ∈ fp, H' b = none) ∧ W i n σ' acc H') ?_ m0 ⟨0, _, [], _, IB, tn4, fun b hb => (f3 b hb).1, w0⟩
    rintro n s5 ⟨i, σ5, acc, H5, I5, st5, fr5, w5⟩
    have no : ∀ {α : Type} {t : Sem α} {Q : α → Shared → Prop} {E : Value → Shared → Prop} {s : Shared}, wpAny (model X.prog X.w) X.A t Q (fun _ _ => False) s → wpAny (model X.prog X.w) X.A t Q E s := fun z => wpAny_mono z (fun _ _ y => y) fun _ _ y => y.elim
    rcases turn i n σ5 acc H5 w5 with ⟨stop, qn⟩ | ⟨go, step⟩
    · refine no (thn (T.done (X.blk scope (own ++ capn) cl s3.heap.objs.size s3 (upd H2 s2.heap.objs.size (.lst [])) fp pins) rfl rfl rfl hc i [] s5 σ5 H5 _ I5 (fst fr5) st5 stop) fun r s6 ⟨hr, I6⟩ => ?_)
      subst hr
      obtain ⟨m, hm, _⟩ := id I6.loc
      have IX : Inv X pins σ H5 s6 := blk_end I3 f3 I6 (Heap.SameBut.refl _ _)
      have fC : ∀ b ∈ [s3.heap.objs.size], FpOk X pins H5 b := fun b hb => by
        obtain rfl : b = s3.heap.objs.size := by simpa using hb
        exact I3.fpOk (Nat.le_refl _) I6.free
      obtain ⟨oC, esC, epC, hoC, hdC, hrC⟩ := id hm
      have Ip := IX.pinned fC (fun b hb => by
        obtain rfl : b = s3.heap.objs.size := by simpa using hb
        exact ⟨oC, hoC, fun v z => by rw [hdC] at z; cases z⟩)
      have apC := I3.apart hex (Heap.get?_none_of_le (Nat.le_refl s3.heap.objs.size))
      have nfC := I3.nofs (Nat.le_refl s3.heap.objs.size)
      show wpAny _ X.A (assign (.Name y py) X.env (.ref s2.heap.objs.size)) _ _ _
      refine wpAny_assign_Name (store_ok Ip hN hi hy (v := .ref s2.heap.objs.size) rfl (fun s7 I7 => ?_) hf)
      have hC7 : s7.heap.get? s3.heap.objs.size = some oC := (I7.pin (s3.heap.objs.size, oC) (List.mem_append_right _ (List.mem_append_right _ (mem_pinsAt (by simp) hoC)))).1
      refine ⟨m, ⟨oC, esC, epC, hC7, hdC, hrC⟩, fun h' hs' => ⟨_, H5, ?_, qn⟩⟩
      exact I7.unpinned.recd apC I6.free nfC fun b o hb z => (hs'.2 b hb).trans z
    · refine no (thn (T.item (X.blk scope (own ++ capn) cl s3.heap.objs.size s3 (upd H2 s2.heap.objs.size (.lst [])) fp pins) rfl rfl rfl hc i [] s5 σ5 H5 _ I5 (fst fr5) st5 go) fun r s6 ⟨u, hr, h6⟩ => ?_)
      subst hr
      refine no (thn h6 fun _ s7 ⟨x, H7, I7, r7, y7, st7, fr7⟩ => ?_)
      have I7' := I7.pinned (fst fr7) (T.obj _ _ st7)
      have kp : ∀ {σ8 : St} {H8 : Hp} {s8 : Shared}, Inv (X.blk scope (own ++ capn) cl s3.heap.objs.size s3 (upd H2 s2.heap.objs.size (.lst [])) fp pins) ([] ++ pinsAt fp s7.heap) σ8 H8 s8 → tn (i + 1) s8.heap ∧ ∀ b ∈ fp, H8 b = none := fun {σ8 H8 s8} I8 => by
        refine ⟨T.keep _ _ _ st7 fun b hb o z => (I8.pin (b, o) (List.mem_append_right _ (List.mem_append_right _ (mem_pinsAt hb z)))).1, fun b hb => ?_⟩
        obtain ⟨o, z, d⟩ := T.obj _ _ st7 b hb
        exact (I8.pin (b, o) (List.mem_append_right _ (List.mem_append_right _ (mem_pinsAt hb z)))).2.1
      refine no (thn (hg cl s3.heap.objs.size s3 _ fp pins _ s7 σ5 H7 x u _ I7' r7 (step x H7 y7)) fun _ s8 ⟨σ8, H8, I8, q8⟩ => ?_)
      refine no (thn (ht cl s3.heap.objs.size s3 _ fp pins _ s8 σ8 H8 _ I8 q8) fun b s9 ⟨H9, I9, q9⟩ => ?_)
      cases b with
      | false =>
        obtain ⟨m', hm, w9⟩ := q9
        exact ⟨m', hm, i + 1, σ8, acc, H9, I9.unpinned, (kp I9).1, (kp I9).2, w9⟩
      | true =>
        refine wpAny_mono (he cl s3.heap.objs.size s3 _ fp pins _ s9 σ8 H9 _ (I9.wish _) q9) (fun y s10 z10 => ?_) (fun ev s10 z10 => HX _ _ _ _ _ _ _ _ _ _ (fun _ _ => False) (.ref s2.heap.objs.size) I3 f3 z10)
        obtain ⟨yv, H10, I10', r10, hD, hz, m', hm, w10⟩ := z10
        have I10 := I10'.unwish
        refine no (thn (mt_append _ s10 σ8 H10 (.ref s2.heap.objs.size) [yv] (.ref s2.heap.objs.size) [y] (fun v H11 => v = .non ∧ H11 = upd H10 s2.heap.objs.size (.lst (acc ++ [yv]))) I10 rfl (.cons r10 .nil) ⟨_, acc, yv, rfl, rfl, hD, hz, rfl, rfl⟩) fun _ s11 ⟨_, H11, I11, _, _, e11⟩ => ?_)
        subst e11
        exact ⟨m', hm, i + 1, σ8, acc ++ [yv], _, I11.unpinned, (kp I11).1, (kp I11).2, w10⟩
  exact codeAny_compStart_list loop (T.self _ 0 _ _ _ tn4 loop)
end
end L2

set_option maxHeartbeats 1000000
namespace Car
open PySem L2
noncomputable def top (i : Nat) : Stmt := PySem.Challenge.pw_carvebed_k16_whole_unrolled.main.body.getD i (.Pass ⟨0, 0, 0, 0⟩)
noncomputable abbrev sStopI : Stmt := inClass (top 5) 0
noncomputable abbrev sIsBig : Stmt := top 6
noncomputable abbrev sBounded : Stmt := top 7
noncomputable abbrev sJoined : Stmt := top 8
noncomputable abbrev sDepth : Stmt := top 9
noncomputable abbrev sTrackI : Stmt := inClass (top 10) 0
noncomputable abbrev sOne : Stmt := inClass (top 10) 1
noncomputable abbrev sMHold : Stmt := inClass (top 10) 2
noncomputable abbrev sMMove : Stmt := inClass (top 10) 3
noncomputable abbrev sReckoned : Stmt := top 12
noncomputable abbrev sNamed : Stmt := top 13

inductive Ex where
  | num (n : Int)
  | nam (x : Str)
  | bin (s : Str) (a b : Ex)
noncomputable def Ex.dat : Ex → PyData
  | .num n => .tuple [.str "number", .int n]
  | .nam x => .tuple [.str "name", .str x]
  | .bin s a b => .tuple [.str s, a.dat, b.dat]
noncomputable def Ex.deep : Ex → Nat
  | .num _ => 0
  | .nam _ => 0
  | .bin _ a b => max a.deep b.deep + 1
noncomputable abbrev dBig : PyData := .tuple [.str "big"]
noncomputable abbrev dUnknown (x : Str) : PyData := .tuple [.str "unknown", .str x]
noncomputable def jn (s : Str) (i j : Int) : Int := if s = "+" then i + j else if s = "-" then i - j else i * j
noncomputable def bnd (i : Int) : Except PyData Int := if -1000000 ≤ i ∧ i ≤ 1000000 then .ok i else .error dBig
noncomputable def reck (env : Str → Option Int) : Ex → Except PyData Int
  | .num n => bnd n
  | .nam x => match env x with | some i => .ok i | none => .error (dUnknown x)
  | .bin s a b => match reck env a with
    | .error d => .error d
    | .ok i => match reck env b with
      | .error d => .error d
      | .ok j => bnd (jn s i j)
noncomputable def Ex.ok : Ex → Prop
  | .num _ => True
  | .nam _ => True
  | .bin s a b => (s = "+" ∨ s = "-" ∨ s = "*") ∧ a.ok ∧ b.ok
theorem bnd_ok {i k : Int} (h : bnd i = .ok k) : k = i ∧ -1000000 ≤ i ∧ i ≤ 1000000 := by
  unfold bnd at h
  split at h
  · rename_i c
    cases h
    exact ⟨rfl, c⟩
  · cases h
theorem reck_small {env : Str → Option Int} (he : ∀ x i, env x = some i → -1000000 ≤ i ∧ i ≤ 1000000) : ∀ (e : Ex) {i : Int}, reck env e = .ok i → -1000000 ≤ i ∧ i ≤ 1000000
  | .num n, i, h => by
    obtain ⟨rfl, c⟩ := bnd_ok h
    exact c
  | .nam x, i, h => by
    unfold reck at h
    split at h
    · rename_i k hk
      cases h
      exact he x _ hk
    · cases h
  | .bin s a b, i, h => by
    unfold reck at h
    split at h
    · cases h
    · split at h
      · cases h
      · obtain ⟨rfl, c⟩ := bnd_ok h
        exact c

noncomputable def XE (K : PySem.W.Frag) (C : Addr) (H : Hp) (E : XK) (d : PyData) : Prop := ∀ (dx : Addr) (v : V) (H' : Hp), Same H H' → H' dx = some (.xd [("end", v)]) → Rp K H' v d → E (.ref C) (some dx) H'
noncomputable def spStop (C : Addr) : Sp := fun vs H Q _ => ∃ e y, vs = [.ref e, y] ∧ H e = some (ExcN e C) ∧ ∀ dx, H dx = none → Q .non (upd (upd H dx (.xd [("end", y)])) e (ExcD e C dx))
theorem same_upd {H : Hp} {p : Addr} (h : H p = none) (o : HO) : Same H (upd H p o) := fun b u q => by rw [upd_ne (ne_of_none q h)]; exact q
theorem stop_ok {K : PySem.W.Frag} {C p : Addr} {H : Hp} {E : XK} {d : PyData} {o : HO} (hp : H p = none) (hd : Rp K (upd H p o) (.ref p) d) (h : XE K C H E d) : ∀ e, upd H p o e = none → spStop C [.ref e, .ref p] (upd (upd H p o) e (ExcN e C)) (fun v H2 => v = .non ∧ ∃ dx, H2 e = some (ExcD e C dx) ∧ E (.ref C) (some dx) (drop H2 e)) E0 := by
  intro e he
  have hep : e ≠ p := fun z => by rw [z, upd_same] at he; cases he
  refine ⟨e, .ref p, rfl, upd_same, fun dx hdx => ⟨rfl, dx, upd_same, ?_⟩⟩
  have hde : dx ≠ e := fun z => by rw [z, upd_same] at hdx; cases hdx
  have hd1 : upd H p o dx = none := by rw [upd_ne hde] at hdx; exact hdx
  have s2 : Same (upd H p o) (drop (upd (upd (upd (upd H p o) e (ExcN e C)) dx (.xd [("end", .ref p)])) e (ExcD e C dx)) e) := fun b u q => by
    have b1 : b ≠ e := ne_of_none q he
    have b2 : b ≠ dx := ne_of_none q hd1
    rw [drop_ne b1, upd_ne b1, upd_ne b2, upd_ne b1]
    exact q
  refine h dx (.ref p) _ ((same_upd hp o).trans s2) ?_ (hd.same s2)
  rw [drop_ne hde, upd_ne hde, upd_same]

section
variable {P : Program} {w : World} {K : PySem.W.Frag} {mg : Str → Option Value} {base : Heap} {C fI f : Addr} {fd : FuncData}
theorem scStopI : FnScope ["self", "end"] ["self", "end"] (defScope sStopI) := ⟨rfl, rfl, rfl, by decide +kernel, rfl, by decide +kernel, by decide +kernel⟩
theorem ok_stop {k : Nat} (S : StopC K mg "Stop" C fI "end") (F : Fun K "__init__" "Stop.__init__" sStopI f fd) : FnOk P w K mg base (CX1 P w) (k + 1) f fd ["self", "end"] (spStop C) := by
  refine F.ok1 scStopI (fun vs H Q E h => ?_) (fun cdv A outer s H vs Q E hr h => ?_)
  · obtain ⟨e, y, rfl, _⟩ := h
    rfl
  obtain ⟨e, y, rfl, he, q⟩ := h
  refine ⟨_, pss_one (ps_xset S (pv 0) (pv 1) rfl), ?_⟩
  exact ⟨_, rfl, _, rfl, e, rfl, he, q⟩

structure StopT (P : Program) (w : World) (K : PySem.W.Frag) (mg : Str → Option Value) (base : Heap) (C fI : Addr) (fd : FuncData) : Prop where
  S : StopC K mg "Stop" C fI "end"
  ok : FnOk P w K mg base (CX1 P w) 1 fI fd ["self", "end"] (spStop C)
  bi : Binds K fd ["self", "end"] []
  num : ∃ t, mg "MOST_NUMBER" = some (.int 1000000 t)

noncomputable def spIsBig : Sp := fun vs H Q _ => ∃ i : Int, vs = [.int i] ∧ Q (.bl (decide (¬ (-1000000 ≤ i ∧ i ≤ 1000000)))) H
theorem scIsBig : FnScope ["number"] ["number"] (defScope sIsBig) := ⟨rfl, rfl, rfl, by decide +kernel, rfl, by decide +kernel, by decide +kernel⟩
theorem ok_isBig (hn : ∃ t, mg "MOST_NUMBER" = some (.int 1000000 t)) (F : Fun K "is_big" "is_big" sIsBig f fd) : FnOk P w K mg base (CX1 P w) 1 f fd ["number"] spIsBig := by
  refine F.ok1 scIsBig (fun vs H Q E h => ?_) (fun cdv A outer s H vs Q E hr h => ?_)
  · obtain ⟨i, rfl, _⟩ := h
    rfl
  obtain ⟨i, rfl, q⟩ := h
  obtain ⟨tk, hnum⟩ := hn
  refine ⟨_, pss_one (ps_ret (pe_or (pe_cmpR op_gt (pv 0) (pe_glob (v := .int 1000000) rfl hnum ⟨_, rfl⟩) (nomark _)) (pe_one (pe_cmpR op_lt (pv 0) (pe_un un_neg (pe_glob (v := .int 1000000) rfl hnum ⟨_, rfl⟩)) (nomark _))))), ?_⟩
  refine ⟨_, rfl, _, _, rfl, rfl, _, rfl, ?_⟩
  refine ite2 (fun c => ?_) (fun c => ?_)
  · have c' : (1000000 : Int) < i := of_decide_eq_true c
    rw [decide_eq_true (show ¬ (-1000000 ≤ i ∧ i ≤ 1000000) by (first | lia | omega))] at q
    exact q
  · have c' : ¬ (1000000 : Int) < i := of_decide_eq_false (Bool.eq_false_iff.mpr c)
    refine ⟨_, rfl, _, rfl, _, _, rfl, rfl, ?_⟩
    rw [show decide (¬ (-1000000 ≤ i ∧ i ≤ 1000000)) = decide (i < -1000000) from decide_eq_decide.mpr (by (first | lia | omega))] at q
    exact q
noncomputable def spBounded (K : PySem.W.Frag) (C : Addr) : Sp := fun vs H Q E => ∃ i, vs = [.int i] ∧ match bnd i with | .ok i => Q (.int i) H | .error d => XE K C H E d
theorem scBounded : FnScope ["number"] ["number"] (defScope sBounded) := ⟨rfl, rfl, rfl, by decide +kernel, rfl, by decide +kernel, by decide +kernel⟩
theorem ok_bounded (S : StopT P w K mg base C fI fd) (FI : Fn P w K mg base "is_big" 1 ["number"] spIsBig) {f : Addr} {fd' : FuncData} (F : Fun K "bounded" "bounded" sBounded f fd') : FnOk P w K mg base (CX1 P w) 3 f fd' ["number"] (spBounded K C) := by
  refine F.ok1 scBounded (fun vs H Q E h => ?_) (fun cdv A outer s H vs Q E hr h => ?_)
  · obtain ⟨i, rfl, _⟩ := h
    rfl
  obtain ⟨i, rfl, q⟩ := h
  have hr1 : Room 1 _ := hr.mono (by decide)
  refine ⟨_, pss_cons (ps_if (pt_truth (pf_call FI hr1 rfl (pass1 (E := E)) (pa_cons (pv 0) pa_nil)) (fun _ => rfl))
    (pss_one (ps_raiseI S.S rfl rfl rfl flies1 S.ok hr S.bi (pa_cons (pe_tup (pa_cons pe_str pa_nil)) pa_nil))) pss_nil)
    (pss_one (ps_ret (pv 0))), ?_⟩
  refine ⟨_, rfl, i, rfl, _, rfl, ?_⟩
  refine ite2 (fun c => ?_) (fun c => ?_)
  · have c' : ¬ (-1000000 ≤ i ∧ i ≤ 1000000) := of_decide_eq_true c
    rw [show bnd i = .error dBig by unfold bnd; rw [if_neg c']] at q
    refine ⟨by show 1 ≤ sizeLine; decide, fun p hp => ⟨by show 1 ≤ sizeLine; decide, ?_⟩⟩
    exact stop_ok hp (.tup (SqT.of upd_same) (.cons (.str _) .nil)) q
  · have c' : -1000000 ≤ i ∧ i ≤ 1000000 := by
      have := of_decide_eq_false (Bool.eq_false_iff.mpr c)
      (first | lia | omega)
    rw [show bnd i = .ok i by unfold bnd; rw [if_pos c']] at q
    exact ⟨_, rfl, q⟩
noncomputable abbrev dDeep : PyData := .tuple [.str "deep"]
noncomputable def spDepth (K : PySem.W.Frag) (C : Addr) : Sp := fun vs H Q E => ∃ n : Int, vs = [.int n] ∧ if 10 ≤ n then XE K C H E dDeep else Q .non H
theorem scDepth : FnScope ["calls_before"] ["calls_before"] (defScope sDepth) := ⟨rfl, rfl, rfl, by decide +kernel, rfl, by decide +kernel, by decide +kernel⟩
theorem ok_depth (S : StopT P w K mg base C fI fd) (hn : ∃ t, mg "MOST_CALLS" = some (.int 10 t)) {f : Addr} {fd' : FuncData} (F : Fun K "look_at_depth" "look_at_depth" sDepth f fd') : FnOk P w K mg base (CX1 P w) 3 f fd' ["calls_before"] (spDepth K C) := by
  refine F.ok1 scDepth (fun vs H Q E h => ?_) (fun cdv A outer s H vs Q E hr h => ?_)
  · obtain ⟨i, rfl, _⟩ := h
    rfl
  obtain ⟨n, rfl, q⟩ := h
  obtain ⟨tk, hnum⟩ := hn
  refine ⟨_, pss_one (ps_if (pt_cmpR op_ge (pv 0) (pe_glob (v := .int 10) rfl hnum ⟨_, rfl⟩) (nomark _))
    (pss_one (ps_raiseI S.S rfl rfl rfl flies1 S.ok hr S.bi (pa_cons (pe_tup (pa_cons pe_str pa_nil)) pa_nil))) pss_nil), ?_⟩
  refine ⟨_, rfl, _, _, rfl, rfl, _, rfl, ?_⟩
  refine ite2 (fun c => ?_) (fun c => ?_)
  · rw [if_pos (of_decide_eq_true c)] at q
    refine ⟨by show 1 ≤ sizeLine; decide, fun p hp => ⟨by show 1 ≤ sizeLine; decide, ?_⟩⟩
    exact stop_ok hp (.tup (SqT.of upd_same) (.cons (.str _) .nil)) q
  · rw [if_neg (of_decide_eq_false (Bool.eq_false_iff.mpr c))] at q
    exact q
end
end Car

set_option maxHeartbeats 1000000
namespace Car
open PySem L2
noncomputable abbrev Nm := List (Str × Int)
noncomputable def envD (n : Nm) : List (Key × V) := n.map fun p => (Sum.inr p.1, V.int p.2)
noncomputable def look (n : Nm) (x : Str) : Option Int := (n.find? fun p => decide (p.1 = x)).map (·.2)
noncomputable def put (n : Nm) (x : Str) (i : Int) : Nm := if (n.any fun p => decide (p.1 = x)) = true then n.map (fun p => if p.1 = x then (p.1, i) else p) else n ++ [(x, i)]
noncomputable def Small (n : Nm) : Prop := ∀ p ∈ n, -1000000 ≤ p.2 ∧ p.2 ≤ 1000000
theorem inr_eq (a x : Str) : ((Sum.inr a : Key) = Sum.inr x) = (a = x) := by simp
theorem valV_env (n : Nm) (x : Str) : valV (envD n) (Sum.inr x : Key) = (look n x).map V.int := by
  induction n with
  | nil => rfl
  | cons p r ih =>
    by_cases e : p.1 = x
    · rw [show envD (p :: r) = (Sum.inr p.1, V.int p.2) :: envD r from rfl, valV_pos (p := ((Sum.inr p.1 : Key), V.int p.2)) (by rw [inr_eq]; exact e)]
      simp [look, List.find?_cons, e]
    · rw [show envD (p :: r) = (Sum.inr p.1, V.int p.2) :: envD r from rfl, valV_neg (p := ((Sum.inr p.1 : Key), V.int p.2)) (by rw [inr_eq]; exact e), ih]
      simp [look, List.find?_cons, e]
theorem putK_env (n : Nm) (x : Str) (i : Int) : putK (envD n) (Sum.inr x : Key) (V.int i) = envD (put n x i) := by
  unfold putK put
  have h : ((envD n).any fun kv => decide (kv.1 = (Sum.inr x : Key))) = n.any fun p => decide (p.1 = x) := by
    unfold envD
    rw [List.any_map]
    congr 1
    funext p
    simp
  rw [h]
  split
  · unfold envD
    rw [List.map_map, List.map_map]
    congr 1
    funext p
    by_cases e : p.1 = x
    · simp [e]
    · simp [e]
  · unfold envD
    rw [List.map_append]
    rfl
theorem look_small {n : Nm} (h : Small n) {x : Str} {i : Int} (e : look n x = some i) : -1000000 ≤ i ∧ i ≤ 1000000 := by
  unfold look at e
  cases q : n.find? fun p => decide (p.1 = x) with
  | none => rw [q] at e; cases e
  | some p =>
    rw [q] at e
    cases e
    exact h p (List.mem_of_find?_eq_some q)
theorem put_small {n : Nm} (h : Small n) {x : Str} {i : Int} (hi : -1000000 ≤ i ∧ i ≤ 1000000) : Small (put n x i) := by
  intro p hp
  unfold put at hp
  split at hp
  · obtain ⟨q, hq, e⟩ := List.mem_map.mp hp
    split at e
    · subst e; exact hi
    · subst e; exact h q hq
  · rcases List.mem_append.mp hp with hp | hp
    · exact h p hp
    · have e : p = (x, i) := by simpa using hp
      subst e; exact hi
theorem len_put (n : Nm) (x : Str) (i : Int) : (put n x i).length ≤ n.length + 1 := by
  unfold put
  split
  · rw [List.length_map]; (first | lia | omega)
  · rw [List.length_append]; simp

section
variable {K : PySem.W.Frag} {H : Hp}
theorem _root_.L2.Rp.tupO {v : V} {ds : List PyData} (h : Rp K H v (.tuple ds)) : ∃ a xs, v = .ref a ∧ SqT K H a xs ∧ Rps K H xs ds := by
  cases h with
  | tup h r => exact ⟨_, _, rfl, h, r⟩
theorem _root_.L2.Rp.lstO {v : V} {ds : List PyData} (h : Rp K H v (.list ds)) : ∃ a xs, v = .ref a ∧ SqL K H a xs ∧ Rps K H xs ds := by
  cases h with
  | lst h r => exact ⟨_, _, rfl, h, r⟩
theorem _root_.L2.Rp.strO {v : V} {x : Str} (h : Rp K H v (.str x)) : v = .str x := by
  cases h; rfl
theorem _root_.L2.Rp.intO {v : V} {i : Int} (h : Rp K H v (.int i)) : v = .int i := by
  cases h; rfl
theorem _root_.L2.Rp.blO {v : V} {b : Bool} (h : Rp K H v (.bool b)) : v = .bl b := by
  cases h; rfl
theorem _root_.L2.Rps.consO {vs : List V} {d : PyData} {ds : List PyData} (h : Rps K H vs (d :: ds)) : ∃ x xs, vs = x :: xs ∧ Rp K H x d ∧ Rps K H xs ds := by
  cases h with
  | cons a b => exact ⟨_, _, rfl, a, b⟩
theorem _root_.L2.Rps.nilO {vs : List V} (h : Rps K H vs []) : vs = [] := by
  cases h; rfl
theorem exNum {v : V} {n : Int} (h : Rp K H v (Ex.num n).dat) : ∃ a, v = .ref a ∧ SqT K H a [.str "number", .int n] := by
  obtain ⟨a, xs, rfl, h1, r⟩ := Rp.tupO h
  obtain ⟨x, xs, rfl, hx, r⟩ := r.consO
  obtain ⟨y, xs, rfl, hy, r⟩ := r.consO
  cases r.nilO
  cases hx.strO
  cases hy.intO
  exact ⟨a, rfl, h1⟩
theorem exNam {v : V} {n : Str} (h : Rp K H v (Ex.nam n).dat) : ∃ a, v = .ref a ∧ SqT K H a [.str "name", .str n] := by
  obtain ⟨a, xs, rfl, h1, r⟩ := Rp.tupO h
  obtain ⟨x, xs, rfl, hx, r⟩ := r.consO
  obtain ⟨y, xs, rfl, hy, r⟩ := r.consO
  cases r.nilO
  cases hx.strO
  cases hy.strO
  exact ⟨a, rfl, h1⟩
theorem exBin {v : V} {s : Str} {e f : Ex} (h : Rp K H v (Ex.bin s e f).dat) : ∃ a x y, v = .ref a ∧ SqT K H a [.str s, x, y] ∧ Rp K H x e.dat ∧ Rp K H y f.dat := by
  obtain ⟨a, xs, rfl, h1, r⟩ := Rp.tupO h
  obtain ⟨x, xs, rfl, hx, r⟩ := r.consO
  obtain ⟨y, xs, rfl, hy, r⟩ := r.consO
  obtain ⟨z, xs, rfl, hz, r⟩ := r.consO
  cases r.nilO
  cases hx.strO
  exact ⟨a, y, z, rfl, h1, hy, hz⟩
end

section
variable {P : Program} {w : World} {K : PySem.W.Frag} {mg : Str → Option Value} {base : Heap} {C fI f : Addr} {fd fd' : FuncData}
noncomputable def spNamed (K : PySem.W.Frag) (C : Addr) : Sp := fun vs H Q E => ∃ x d n, vs = [.str x, .ref d] ∧ H d = some (.dK (envD n)) ∧ match look n x with | some i => Q (.int i) H | none => XE K C H E (dUnknown x)
theorem scNamed : FnScope ["name", "names"] ["name", "names"] (defScope sNamed) := ⟨rfl, rfl, rfl, by decide +kernel, rfl, by decide +kernel, by decide +kernel⟩
theorem ok_named (S : StopT P w K mg base C fI fd) (F : Fun K "named" "named" sNamed f fd') : FnOk P w K mg base (CX1 P w) 3 f fd' ["name", "names"] (spNamed K C) := by
  refine F.ok1 scNamed (fun vs H Q E h => ?_) (fun cdv A outer s H vs Q E hr h => ?_)
  · obtain ⟨x, d, n, rfl, _⟩ := h
    rfl
  obtain ⟨x, d, n, rfl, hd, q⟩ := h
  have hu := hu_of hr
  refine ⟨_, pss_cons (ps_if (pt_cmp (pc_dnotin hu (pv 0) (pv 1))) (pss_one (ps_raiseI S.S rfl rfl rfl flies1 S.ok hr S.bi (pa_cons (pe_tup (pa_cons pe_str (pa_cons (pv 0) pa_nil))) pa_nil))) pss_nil)
    (pss_one (ps_ret (pe_dget hu (pv 1) (pv 0) (fun _ _ => rfl)))), ?_⟩
  refine ⟨_, rfl, _, rfl, d, _, rfl, DGet.k (k := Sum.inr x) hd, _, rfl, ?_⟩
  have hv := valV_env n x
  cases e : look n x with
  | none =>
    rw [e] at hv q
    rw [hv]
    refine iteT ?_
    refine ⟨_, rfl, (by show 2 ≤ sizeLine; decide), fun p hp => ⟨by show 1 ≤ sizeLine; decide, ?_⟩⟩
    exact stop_ok hp (.tup (SqT.of upd_same) (.cons (.str _) (.cons (.str _) .nil))) q
  | some i =>
    rw [e] at hv q
    rw [hv]
    refine iteF ?_
    refine ⟨_, rfl, _, rfl, d, .int i, rfl, ?_, q⟩
    have z := DGet.k (k := Sum.inr x) hd
    rw [hv] at z
    exact z
noncomputable def spJoined : Sp := fun vs H Q _ => ∃ s i j, vs = [.str s, .int i, .int j] ∧ (-1000000 ≤ i ∧ i ≤ 1000000) ∧ Q (.int (jn s i j)) H
theorem scJoined : FnScope ["sign", "first", "second"] ["sign", "first", "second"] (defScope sJoined) := ⟨rfl, rfl, rfl, by decide +kernel, rfl, by decide +kernel, by decide +kernel⟩
theorem ok_joined (F : Fun K "joined" "joined" sJoined f fd') : FnOk P w K mg base (CX1 P w) 1 f fd' ["sign", "first", "second"] spJoined := by
  refine F.ok1 scJoined (fun vs H Q E h => ?_) (fun cdv A outer s H vs Q E hr h => ?_)
  · obtain ⟨x, d, n, rfl, _⟩ := h
    rfl
  obtain ⟨s, i, j, rfl, hi, q⟩ := h
  refine ⟨_, pss_cons (ps_if (pt_cmpR op_eq (pv 0) pe_str (nomark _)) (pss_one (ps_ret (pe_op op_add (pv 1) (pv 2)))) pss_nil)
    (pss_cons (ps_if (pt_cmpR op_eq (pv 0) pe_str (nomark _)) (pss_one (ps_ret (pe_op op_sub (pv 1) (pv 2)))) pss_nil)
    (pss_one (ps_ret (pe_op op_mul (pv 1) (pv 2))))), ?_⟩
  refine ⟨_, rfl, rfl, _, rfl, ?_⟩
  refine ite2 (fun c => ?_) (fun c => ?_)
  · have c' : V.str s = V.str "+" := of_decide_eq_true c
    cases c'
    exact ⟨_, rfl, _, rfl, _, _, rfl, rfl, q⟩
  · have c' : ¬ V.str s = V.str "+" := of_decide_eq_false (Bool.eq_false_iff.mpr c)
    have c1 : ¬ s = "+" := fun z => c' (by rw [z])
    refine ⟨_, rfl, rfl, _, rfl, ?_⟩
    refine ite2 (fun c => ?_) (fun c => ?_)
    · have c' : V.str s = V.str "-" := of_decide_eq_true c
      cases c'
      exact ⟨_, rfl, _, rfl, _, _, rfl, rfl, q⟩
    · have c' : ¬ V.str s = V.str "-" := of_decide_eq_false (Bool.eq_false_iff.mpr c)
      have c2 : ¬ s = "-" := fun z => c' (by rw [z])
      refine ⟨_, rfl, _, rfl, _, _, rfl, rfl, .inl ⟨by (first | lia | omega), by (first | lia | omega)⟩, ?_⟩
      unfold jn at q
      rw [if_neg c1, if_neg c2] at q
      exact q

noncomputable def spReck (K : PySem.W.Frag) (C : Addr) (k : Nat) : Sp := fun vs H Q E => ∃ (v : V) (d : Addr) (n : Nm) (e : Ex), vs = [v, .ref d] ∧ Rp K H v e.dat ∧ H d = some (.dK (envD n)) ∧ Small n ∧ e.ok ∧ e.deep ≤ k ∧
  match reck (look n) e with | .ok i => Q (.int i) H | .error d => XE K C H E d
theorem scReck : FnScope ["told", "names", "first", "second"] ["told", "names"] (defScope sReckoned) := ⟨rfl, rfl, rfl, by decide +kernel, rfl, by decide +kernel, by decide +kernel⟩
theorem XE.mono {H H' : Hp} {E : XK} {d : PyData} (s : Same H H') (h : XE K C H E d) : XE K C H' E d := fun dx v H2 s2 => h dx v H2 (s.trans s2)
theorem neNN : ¬ (V.str "name" = V.str "number") := by decide
theorem signNN {s : Str} (h : s = "+" ∨ s = "-" ∨ s = "*") : ¬ (V.str s = V.str "number") ∧ ¬ (V.str s = V.str "name") := by
  rcases h with rfl | rfl | rfl <;> exact ⟨by decide, by decide⟩
theorem ok_reck1 (S : StopT P w K mg base C fI fd) {k : Nat} (FB : Fn P w K mg base "bounded" 3 ["number"] (spBounded K C)) (FN : Fn P w K mg base "named" 3 ["name", "names"] (spNamed K C)) (FJ : Fn P w K mg base "joined" 1 ["sign", "first", "second"] spJoined)
    (FR : Fn P w K mg base "reckoned" (k + 4) ["told", "names"] (fun vs H Q E => ∃ m, m + 1 = k ∧ spReck K C m vs H Q E)) (F : Fun K "reckoned" "reckoned" sReckoned f fd') : FnOk P w K mg base (CX1 P w) (k + 5) f fd' ["told", "names"] (spReck K C k) := by
  have nd := scReck.nd
  refine F.ok1 scReck (fun vs H Q E h => ?_) (fun cdv A outer s H vs Q E hr h => ?_)
  · obtain ⟨v, d, n, e, rfl, _⟩ := h
    rfl
  obtain ⟨v, d, n, e, rfl, hv, hd, sm, eok, edp, q⟩ := h
  have hr3 : Room 3 _ := hr.mono (show 3 ≤ k + 4 by (first | lia | omega))
  have hr1 : Room 1 _ := hr.mono (show 1 ≤ k + 4 by (first | lia | omega))
  refine ⟨_, (pss_cons (ps_if (pt_cmpR op_eq (pe_ix ix_tup (pv 0) pe_int (fun _ _ => rfl)) pe_str (nomark _)) (pss_one (ps_ret (pf_call FB hr3 rfl pass1 (pa_cons (pe_ix ix_tup (pv 0) pe_int (fun _ _ => rfl)) pa_nil)))) pss_nil)
    (pss_cons (ps_if (pt_cmpR op_eq (pe_ix ix_tup (pv 0) pe_int (fun _ _ => rfl)) pe_str (nomark _)) (pss_one (ps_ret (pf_call FN hr3 rfl pass1 (pa_cons (pe_ix ix_tup (pv 0) pe_int (fun _ _ => rfl)) (pa_cons (pv 1) pa_nil))))) pss_nil)
    (pss_cons (ps_set (i := 2) nd rfl (Or.inl rfl) (pf_call FR hr rfl pass1 (pa_cons (pe_ix ix_tup (pv 0) pe_int (fun _ _ => rfl)) (pa_cons (pv 1) pa_nil))))
    (pss_cons (ps_set (i := 3) nd rfl (Or.inl rfl) (pf_call FR hr rfl pass1 (pa_cons (pe_ix ix_tup (pv 0) pe_int (fun _ _ => rfl)) (pa_cons (pv 1) pa_nil))))
    (pss_one (ps_ret (pf_call FB hr3 rfl pass1 (pa_cons (pf_call FJ hr1 rfl pass1 (pa_cons (pe_ix ix_tup (pv 0) pe_int (fun _ _ => rfl)) (pa_cons (pv 2) (pa_cons (pv 3) pa_nil)))) pa_nil)))))))), ?_⟩
  cases e with
  | num m =>
    obtain ⟨a, rfl, ht⟩ := exNum hv
    refine ⟨_, rfl, _, _, _, _, rfl, rfl, ht, rfl, rfl, _, rfl, ?_⟩
    refine iteT ?_
    exact ⟨_, rfl, _, _, _, _, rfl, rfl, ht, rfl, _, rfl, q⟩
  | nam x =>
    obtain ⟨a, rfl, ht⟩ := exNam hv
    refine ⟨_, rfl, _, _, _, _, rfl, rfl, ht, rfl, rfl, _, rfl, ?_⟩
    rw [decide_eq_false neNN]
    refine iteF ?_
    refine ⟨_, rfl, _, _, _, _, rfl, rfl, ht, rfl, rfl, _, rfl, ?_⟩
    refine iteT ?_
    refine ⟨_, rfl, _, _, _, _, rfl, rfl, ht, rfl, _, rfl, x, d, n, rfl, hd, ?_⟩
    unfold reck at q
    cases e : look n x with
    | none => rw [e] at q; exact q
    | some i => rw [e] at q; exact q
  | bin s a b =>
    obtain ⟨t, x, y, rfl, ht, hx, hy⟩ := exBin hv
    obtain ⟨hs, oka, okb⟩ := eok
    obtain ⟨n1, n2⟩ := signNN hs
    have da : a.deep < k := by unfold Ex.deep at edp; (first | lia | omega)
    have db : b.deep < k := by unfold Ex.deep at edp; (first | lia | omega)
    refine ⟨_, rfl, _, _, _, _, rfl, rfl, ht, rfl, rfl, _, rfl, ?_⟩
    rw [decide_eq_false n1]
    refine iteF ?_
    refine ⟨_, rfl, _, _, _, _, rfl, rfl, ht, rfl, rfl, _, rfl, ?_⟩
    rw [decide_eq_false n2]
    refine iteF ?_
    unfold reck at q
    refine ⟨_, rfl, _, _, _, _, rfl, rfl, ht, rfl, _, rfl, k - 1, by (first | lia | omega), _, _, _, _, rfl, hx, hd, sm, oka, by (first | lia | omega), ?_⟩
    cases e1 : reck (look n) a with
    | error d1 =>
      rw [e1] at q
      exact q
    | ok i =>
      rw [e1] at q
      refine ⟨_, rfl, _, _, _, _, rfl, rfl, ht, rfl, _, rfl, k - 1, by (first | lia | omega), _, _, _, _, rfl, hy, hd, sm, okb, by (first | lia | omega), ?_⟩
      cases e2 : reck (look n) b with
      | error d1 =>
        rw [e2] at q
        exact q
      | ok j =>
        rw [e2] at q
        refine ⟨_, rfl, _, _, _, _, rfl, rfl, ht, rfl, _, rfl, _, rfl, _, _, _, rfl, reck_small (fun x i h => look_small sm h) a e1, _, rfl, ?_⟩
        exact q
theorem ok_reck (S : StopT P w K mg base C fI fd) (FB : Fn P w K mg base "bounded" 3 ["number"] (spBounded K C)) (FN : Fn P w K mg base "named" 3 ["name", "names"] (spNamed K C)) (FJ : Fn P w K mg base "joined" 1 ["sign", "first", "second"] spJoined)
    (hm : mg "reckoned" = some (.ref f)) (kp : PySem.W.keepIn K (.ref f) = true) (bi : Binds K fd' ["told", "names"] []) (F : Fun K "reckoned" "reckoned" sReckoned f fd') : ∀ k, Fn P w K mg base "reckoned" (k + 5) ["told", "names"] (spReck K C k)
  | 0 => ⟨f, fd', ok_reck1 S FB FN FJ ⟨f, fd', ⟨fun vs H Q E ⟨m, hm, _⟩ => absurd hm (by (first | lia | omega)), fun _ _ _ _ _ _ _ _ _ _ _ _ _ ⟨m, hm, _⟩ => absurd hm (by (first | lia | omega))⟩, hm, kp, bi⟩ F, hm, kp, bi⟩
  | k + 1 => by
    obtain ⟨f0, fd0, ok0, hm0, kp0, bi0⟩ := (ok_reck S FB FN FJ hm kp bi F k).ex
    exact ⟨f, fd', ok_reck1 S FB FN FJ ⟨f0, fd0, ok0.imp fun vs H Q E ⟨m, e, h⟩ => (by have z : m = k := (by (first | lia | omega)); subst z; exact h), hm0, kp0, bi0⟩ F, hm, kp, bi⟩
end
end Car

set_option maxHeartbeats 1000000
namespace Car
open PySem L2
inductive Stm where
  | hold (e : Ex)
  | move (k a : Str) (e : Ex) (y : Bool)
  | lt (x : Str) (e : Ex)
  | call (x : Str) (es : List Ex)
  | times (x : Str) (e : Ex) (b : List Stm)
  | iff (s : Str) (e f : Ex) (b c : List Stm)
mutual
noncomputable def Stm.dat : Stm → PyData
  | .hold e => .tuple [.str "hold", e.dat]
  | .move k a e y => .tuple [.str "move", .str k, .str a, e.dat, .bool y]
  | .lt x e => .tuple [.str "let", .str x, e.dat]
  | .call x es => .tuple [.str "call", .str x, .list (es.map Ex.dat)]
  | .times x e b => .tuple [.str "times", .str x, e.dat, .list (dats b)]
  | .iff s e f b c => .tuple [.str "if", .str s, e.dat, f.dat, .list (dats b), .list (dats c)]
noncomputable def dats : List Stm → List PyData
  | [] => []
  | s :: r => s.dat :: dats r
end
theorem dats_map : ∀ b : List Stm, dats b = b.map Stm.dat
  | [] => by rw [dats]; rfl
  | s :: r => by rw [dats, dats_map r, List.map_cons]
structure Sub where
  name : Str
  names : List Str
  body : List Stm
noncomputable def Sub.dat (s : Sub) : PyData := .tuple [.str s.name, .list (s.names.map .str), .list (dats s.body)]
noncomputable def subOf (x : Str) : List Sub → Option Sub
  | [] => none
  | s :: r => match subOf x r with
    | some t => some t
    | none => if s.name = x then some s else none
noncomputable def recks (env : Str → Option Int) : List Ex → Except PyData (List Int)
  | [] => .ok []
  | e :: r => match reck env e with
    | .error d => .error d
    | .ok i => match recks env r with
      | .error d => .error d
      | .ok ns => .ok (i :: ns)
noncomputable def putAll (n : Nm) : List (Str × Int) → Nm
  | [] => n
  | p :: r => putAll (put n p.1 p.2) r
mutual
noncomputable def Stm.ok (k : Nat) : Stm → Prop
  | .hold e => e.ok ∧ e.deep ≤ k
  | .move _ a e _ => (a = "x" ∨ a = "y" ∨ a = "z") ∧ e.ok ∧ e.deep ≤ k
  | .lt _ e => e.ok ∧ e.deep ≤ k
  | .call _ es => es.length ≤ 10 ∧ ∀ e ∈ es, e.ok ∧ e.deep ≤ k
  | .times _ e b => e.ok ∧ e.deep ≤ k ∧ oks k b
  | .iff _ e f b c => e.ok ∧ e.deep ≤ k ∧ f.ok ∧ f.deep ≤ k ∧ oks k b ∧ oks k c
noncomputable def oks (k : Nat) : List Stm → Prop
  | [] => True
  | s :: r => s.ok k ∧ oks k r
end
theorem oks_get {k : Nat} : ∀ {b : List Stm} {i : Nat} {s : Stm}, oks k b → b[i]? = some s → s.ok k
  | [], _, _, _, e => by simp at e
  | s :: r, 0, t, h, e => by
    rw [oks] at h
    have : s = t := by simpa using e
    subst this
    exact h.1
  | s :: r, i + 1, t, h, e => by
    rw [oks] at h
    exact oks_get h.2 (by simpa using e)
structure Wk where
  body : List Stm
  fr : Nat
  oc : Bool
  at_ : Nat
  ctr : Str
  turn : Int
  turns : Int
structure RS where
  cnt : Nat
  moves : List (List V)
  pl : Nm
  envs : List Nm
  stk : List Wk
  subs : List Sub
inductive Res where
  | ok (S : RS)
  | stop (S : RS) (d : PyData)
  | bad
noncomputable abbrev dLong : PyData := .tuple [.str "long"]
noncomputable abbrev dDone : PyData := .tuple [.str "done"]
noncomputable def RS.env (S : RS) (j : Nat) : Nm := S.envs.getD j []
noncomputable def RS.one (S : RS) : RS := { S with cnt := S.cnt + 1 }
noncomputable def RS.let_ (S : RS) (j : Nat) (x : Str) (i : Int) : RS := { S with envs := S.envs.set j (put (S.env j) x i) }
noncomputable def RS.say (S : RS) (m : List V) : RS := { S with moves := S.moves ++ [m] }
noncomputable def RS.put (S : RS) (a : Str) (i : Int) : RS := { S with pl := Car.put S.pl a i }
noncomputable def RS.push (S : RS) (w : Wk) : RS := { S with stk := w :: S.stk }
noncomputable def holdsE (s : Str) (i j : Int) : Bool := if s = "<" then decide (i < j) else decide (i = j)
noncomputable def callS (S : RS) (fr : Nat) (x : Str) (es : List Ex) : Res := if 10 ≤ (S.stk.filter (·.oc)).length then .stop S dDeep else match subOf x S.subs with
    | none => .bad
    | some sb => match recks (look (S.env fr)) es with
      | .error d => .stop S d
      | .ok ns => .ok { S with envs := S.envs ++ [putAll [] (sb.names.zip ns)], stk := ⟨sb.body, S.envs.length, true, 0, "", 0, 0⟩ :: S.stk }
noncomputable def doS (S : RS) (fr : Nat) : Stm → Res
  | .hold e => match reck (look (S.env fr)) e with
    | .error d => .stop S d
    | .ok i => .ok (S.say [.str "hold", .int i])
  | .move k a e y => match reck (look (S.env fr)) e with
    | .error d => .stop S d
    | .ok i => if y = true then match bnd ((look S.pl a).getD 0 + i) with
        | .error d => .stop S d
        | .ok j => .ok ((S.put a j).say [.str k, .str a, .int j])
      else .ok ((S.put a i).say [.str k, .str a, .int i])
  | .lt x e => match reck (look (S.env fr)) e with
    | .error d => .stop S d
    | .ok i => .ok (S.let_ fr x i)
  | .call x es => callS S fr x es
  | .times x e b => match reck (look (S.env fr)) e with
    | .error d => .stop S d
    | .ok i => .ok (S.push ⟨b, fr, false, b.length, x, 0, i⟩)
  | .iff s e f b c => match reck (look (S.env fr)) e with
    | .error d => .stop S d
    | .ok i => match reck (look (S.env fr)) f with
      | .error d => .stop S d
      | .ok j => .ok (S.push ⟨if holdsE s i j = true then b else c, fr, false, 0, "", 0, 0⟩)
noncomputable def stepW (S : RS) (w : Wk) (r : List Wk) : Res :=
  match w.body[w.at_]? with
  | some st => if S.cnt = 2000 then .stop { S with stk := { w with at_ := w.at_ + 1 } :: r } dLong else doS { S with cnt := S.cnt + 1, stk := { w with at_ := w.at_ + 1 } :: r } w.fr st
  | none => if w.turn < w.turns then
      if S.cnt = 2000 then .stop S dLong else .ok { S with cnt := S.cnt + 1, envs := S.envs.set w.fr (put (S.env w.fr) w.ctr w.turn), stk := { w with turn := w.turn + 1, at_ := 0 } :: r }
    else .ok { S with stk := r }
noncomputable def meas (S : RS) : Nat := 2 * (2000 - S.cnt) + S.stk.length
end Car

set_option maxHeartbeats 1000000
namespace Car
open PySem L2
noncomputable abbrev fW (b d : Addr) (oc : Bool) (a : Int) (ctr : Str) (turn turns : Int) : List (Str × V) := [("body", .ref b), ("names", .ref d), ("of_call", .bl oc), ("at", .int a), ("counter", .str ctr), ("turn", .int turn), ("turns", .int turns)]
noncomputable abbrev fR (sb t wk : Addr) : List (Str × V) := [("subs", .ref sb), ("track", .ref t), ("walks", .ref wk)]
noncomputable abbrev fT (mv pl : Addr) (c : Int) : List (Str × V) := [("moves", .ref mv), ("places", .ref pl), ("counted", .int c)]
structure RA where
  p : Addr
  dx : Addr
  sb : Addr
  t : Addr
  tdx : Addr
  mv : Addr
  pl : Addr
  wk : Addr
  ws : List Addr
  ds : List Addr
noncomputable def MvAt (H : Hp) : List Addr → List (List V) → Prop
  | [], [] => True
  | t :: ts, m :: ms => H t = some (.tup m) ∧ MvAt H ts ms
  | _, _ => False
theorem MvAt.upd {H : Hp} {q : Addr} {o : HO} (hq : ∀ m, H q ≠ some (.tup m)) : ∀ {ts : List Addr} {ms : List (List V)}, MvAt H ts ms → MvAt (upd H q o) ts ms
  | [], [], _ => True.intro
  | t :: ts, m :: ms, ⟨h, r⟩ => ⟨by rw [upd_ne (fun z => hq m (by rw [← z]; exact h))]; exact h, MvAt.upd hq r⟩
theorem MvAt.same {H H' : Hp} (s : Same H H') : ∀ {ts : List Addr} {ms : List (List V)}, MvAt H ts ms → MvAt H' ts ms
  | [], [], _ => True.intro
  | t :: ts, m :: ms, ⟨h, r⟩ => ⟨s _ _ h, MvAt.same s r⟩
theorem MvAt.snoc {H : Hp} {t : Addr} {m : List V} (h : H t = some (.tup m)) : ∀ {ts : List Addr} {ms : List (List V)}, MvAt H ts ms → MvAt H (ts ++ [t]) (ms ++ [m])
  | [], [], _ => ⟨h, True.intro⟩
  | t :: ts, m :: ms, ⟨h1, r⟩ => ⟨h1, MvAt.snoc h r⟩
theorem MvAt.len {H : Hp} : ∀ {ts : List Addr} {ms : List (List V)}, MvAt H ts ms → ts.length = ms.length
  | [], [], _ => rfl
  | t :: ts, m :: ms, ⟨_, r⟩ => by rw [List.length_cons, List.length_cons, r.len]
section
variable (k : Nat) (K : PySem.W.Frag) (CW : Addr) (H0 : Hp)
noncomputable def WkAt (H : Hp) (ds : List Addr) (a : Addr) (w : Wk) : Prop := ∃ b dx d, H a = some (.ins CW dx (fW b d w.oc (w.at_ : Int) w.ctr w.turn w.turns)) ∧ ds[w.fr]? = some d ∧ Rp K H0 (.ref b) (.list (dats w.body)) ∧ oks k w.body ∧ w.at_ ≤ w.body.length ∧ 0 ≤ w.turn ∧ w.turns ≤ 1000000
noncomputable def WksAt (H : Hp) (ds : List Addr) : List Addr → List Wk → Prop
  | [], [] => True
  | a :: as, w :: ws => WkAt k K CW H0 H ds a w ∧ WksAt H ds as ws
  | _, _ => False
noncomputable def EnvsAt (H : Hp) (c : Nat) : List Addr → List Nm → Prop
  | [], [] => True
  | d :: ds, n :: ns => (H d = some (.dK (envD n)) ∧ Small n ∧ n.length ≤ c + 10) ∧ EnvsAt H c ds ns
  | _, _ => False
end
section
variable {k : Nat} {K : PySem.W.Frag} {CW : Addr} {H0 H H' : Hp} {ds : List Addr} {q : Addr} {o : HO} {c : Nat}
theorem WksAt.upd : ∀ {as : List Addr} {ws : List Wk}, q ∉ as → WksAt k K CW H0 H ds as ws → WksAt k K CW H0 (upd H q o) ds as ws
  | [], [], _, _ => True.intro
  | a :: as, w :: ws, hq, ⟨⟨b, dx, d, h, r⟩, t⟩ => ⟨⟨b, dx, d, by rw [upd_ne (fun z => hq (by simp [z]))]; exact h, r⟩, WksAt.upd (fun z => hq (List.mem_cons_of_mem _ z)) t⟩
theorem WksAt.same (s : Same H H') : ∀ {as : List Addr} {ws : List Wk}, WksAt k K CW H0 H ds as ws → WksAt k K CW H0 H' ds as ws
  | [], [], _ => True.intro
  | a :: as, w :: ws, ⟨⟨b, dx, d, h, r⟩, t⟩ => ⟨⟨b, dx, d, s _ _ h, r⟩, WksAt.same s t⟩
theorem WksAt.mem : ∀ {as : List Addr} {ws : List Wk}, WksAt k K CW H0 H ds as ws → ∀ a ∈ as, ∃ dx fs, H a = some (.ins CW dx fs)
  | [], [], _, a, h => by simp at h
  | a :: as, w :: ws, ⟨⟨b, dx, d, h, r⟩, t⟩, a', ha => by
    rcases List.mem_cons.mp ha with rfl | ha
    · exact ⟨_, _, h⟩
    · exact WksAt.mem t a' ha
theorem WksAt.len : ∀ {as : List Addr} {ws : List Wk}, WksAt k K CW H0 H ds as ws → as.length = ws.length
  | [], [], _ => rfl
  | a :: as, w :: ws, ⟨_, t⟩ => by rw [List.length_cons, List.length_cons, WksAt.len t]
theorem EnvsAt.upd : ∀ {ds : List Addr} {ns : List Nm}, q ∉ ds → EnvsAt H c ds ns → EnvsAt (upd H q o) c ds ns
  | [], [], _, _ => True.intro
  | d :: ds, n :: ns, hq, ⟨⟨h, r⟩, t⟩ => ⟨⟨by rw [upd_ne (fun z => hq (by simp [z]))]; exact h, r⟩, EnvsAt.upd (fun z => hq (List.mem_cons_of_mem _ z)) t⟩
theorem EnvsAt.same (s : Same H H') : ∀ {ds : List Addr} {ns : List Nm}, EnvsAt H c ds ns → EnvsAt H' c ds ns
  | [], [], _ => True.intro
  | d :: ds, n :: ns, ⟨⟨h, r⟩, t⟩ => ⟨⟨s _ _ h, r⟩, EnvsAt.same s t⟩
theorem EnvsAt.more {c' : Nat} (hc : c ≤ c') : ∀ {ds : List Addr} {ns : List Nm}, EnvsAt H c ds ns → EnvsAt H c' ds ns
  | [], [], _ => True.intro
  | d :: ds, n :: ns, ⟨⟨h, r, l⟩, t⟩ => ⟨⟨h, r, Nat.le_trans l (Nat.add_le_add_right hc 10)⟩, EnvsAt.more hc t⟩
theorem EnvsAt.mem : ∀ {ds : List Addr} {ns : List Nm}, EnvsAt H c ds ns → ∀ d ∈ ds, ∃ kvs, H d = some (.dK kvs)
  | [], [], _, a, h => by simp at h
  | d :: ds, n :: ns, ⟨⟨h, r⟩, t⟩, a', ha => by
    rcases List.mem_cons.mp ha with rfl | ha
    · exact ⟨_, h⟩
    · exact EnvsAt.mem t a' ha
theorem EnvsAt.get : ∀ {ds : List Addr} {ns : List Nm} {j : Nat} {d : Addr}, EnvsAt H c ds ns → ds[j]? = some d → H d = some (.dK (envD (ns.getD j []))) ∧ Small (ns.getD j []) ∧ (ns.getD j []).length ≤ c + 10
  | [], [], _, _, _, e => by simp at e
  | d :: ds, n :: ns, 0, d', ⟨h, t⟩, e => by
    have : d = d' := by simpa using e
    subst this
    simpa using h
  | d :: ds, n :: ns, j + 1, d', ⟨h, t⟩, e => by
    have := EnvsAt.get (j := j) t (by simpa using e)
    simpa using this
theorem EnvsAt.set {n : Nm} (hn : Small n ∧ n.length ≤ c + 10) : ∀ {ds : List Addr} {ns : List Nm} {j : Nat} {d : Addr}, ds.Nodup → EnvsAt H c ds ns → ds[j]? = some d → EnvsAt (L2.upd H d (.dK (envD n))) c ds (ns.set j n)
  | [], [], _, _, _, _, e => by simp at e
  | d :: ds, m :: ns, 0, d', nd, ⟨h, t⟩, e => by
    have : d = d' := by simpa using e
    subst this
    exact ⟨⟨upd_same, hn⟩, EnvsAt.upd (List.nodup_cons.mp nd).1 t⟩
  | d :: ds, m :: ns, j + 1, d', nd, ⟨⟨h, r⟩, t⟩, e => by
    have e' : ds[j]? = some d' := by simpa using e
    have hne : d ≠ d' := fun z => (List.nodup_cons.mp nd).1 (by rw [z]; exact List.mem_of_getElem? e')
    exact ⟨⟨by rw [upd_ne hne]; exact h, r⟩, EnvsAt.set hn (List.nodup_cons.mp nd).2 t e'⟩
end
noncomputable def PlOk (n : Nm) : Prop := n.map (fun p => p.1) = ([("x" : Str), "y", "z"] : List Str)
theorem put_keys {n : Nm} {a : Str} (i : Int) (h : a ∈ n.map (·.1)) : (put n a i).map (·.1) = n.map (·.1) := by
  unfold put
  rw [if_pos (List.any_eq_true.mpr (by obtain ⟨p, hp, e⟩ := List.mem_map.mp h; exact ⟨p, hp, decide_eq_true e⟩)), List.map_map]
  congr 1
  funext p
  by_cases e : p.1 = a
  · simp [e]
  · simp [e]
theorem PlOk.put {n : Nm} (h : PlOk n) {a : Str} (ha : a = "x" ∨ a = "y" ∨ a = "z") (i : Int) : PlOk (put n a i) := by
  unfold PlOk at h ⊢
  rw [put_keys i (by rw [h]; rcases ha with rfl | rfl | rfl <;> simp), h]
theorem PlOk.look {n : Nm} (h : PlOk n) {a : Str} (ha : a = "x" ∨ a = "y" ∨ a = "z") : ∃ i, look n a = some i := by
  have hm : a ∈ n.map (·.1) := by
    unfold PlOk at h
    rw [h]
    rcases ha with rfl | rfl | rfl <;> simp
  unfold Car.look
  cases q : n.find? fun p => decide (p.1 = a) with
  | some p => exact ⟨p.2, rfl⟩
  | none =>
    obtain ⟨p, hp, e⟩ := List.mem_map.mp hm
    have := List.find?_eq_none.mp q p hp
    simp [e] at this
theorem PlOk.len {n : Nm} (h : PlOk n) : n.length = 3 := by
  have := congrArg List.length h
  simpa using this

noncomputable def SubD (K : PySem.W.Frag) (H0 : Hp) (k : Nat) (kvs : List (Key × V)) (subs : List Sub) : Prop := ∀ x sb, subOf x subs = some sb → ∃ fa fn fb : Addr, valV kvs (Sum.inr x : Key) = some (V.ref fa) ∧ SqT K H0 fa [.str sb.name, .ref fn, .ref fb] ∧ SqL K H0 fn (sb.names.map V.str) ∧ Rp K H0 (.ref fb) (.list (dats sb.body)) ∧ oks k sb.body
structure RunIn (k : Nat) (K : PySem.W.Frag) (CR CW CT : Addr) (H0 H : Hp) (A : RA) (S : RS) (c : Nat) : Prop where
  same : Same H0 H
  run : H A.p = some (.ins CR A.dx (fR A.sb A.t A.wk))
  tr : H A.t = some (.ins CT A.tdx (fT A.mv A.pl (S.cnt : Int)))
  mv : ∃ ts : List Addr, H A.mv = some (.lst (ts.map V.ref)) ∧ MvAt H ts S.moves
  pl : H A.pl = some (.dK (envD S.pl))
  plk : PlOk S.pl
  wk : H A.wk = some (.lst (A.ws.reverse.map V.ref))
  ws : WksAt k K CW H0 H A.ds A.ws S.stk
  en : EnvsAt H c A.ds S.envs
  le : c ≤ S.cnt ∧ S.cnt ≤ 2000 ∧ S.moves.length ≤ c ∧ S.stk.length ≤ c + 1
  np : H0 A.p = none
  nt : H0 A.t = none
  nmv : H0 A.mv = none
  npl : H0 A.pl = none
  nwk : H0 A.wk = none
  nws : ∀ a ∈ A.ws, H0 a = none
  nds : ∀ a ∈ A.ds, H0 a = none
  ndw : A.ws.Nodup
  ndd : A.ds.Nodup
  pw : A.p ∉ A.ws
  tw : A.t ∉ A.ws
  pt : A.p ≠ A.t
  pd : A.pl ∉ A.ds
  mw : A.mv ≠ A.wk
  sb : ∃ kvs, H A.sb = some (.dK kvs) ∧ SubD K H0 k kvs S.subs
  sp : A.sb ≠ A.pl
  sd : A.sb ∉ A.ds
section
variable {k : Nat} {K : PySem.W.Frag} {CR CW CT : Addr} {H0 H H' : Hp} {A : RA} {S : RS} {q : Addr} {o : HO} {c : Nat}
theorem same_in {H0 H : Hp} {q : Addr} {o : HO} (s : Same H0 H) (h : H0 q = none) : Same H0 (upd H q o) := fun b u e => by
  rw [upd_ne (ne_of_none e h)]
  exact s b u e
theorem RunIn.same' (R : RunIn k K CR CW CT H0 H A S c) (s : Same H H') : RunIn k K CR CW CT H0 H' A S c :=
  ⟨R.same.trans s, s _ _ R.run, s _ _ R.tr, let ⟨ts, a, b⟩ := R.mv; ⟨ts, s _ _ a, b.same s⟩, s _ _ R.pl, R.plk, s _ _ R.wk, R.ws.same s, R.en.same s, R.le, R.np, R.nt, R.nmv, R.npl, R.nwk, R.nws, R.nds, R.ndw, R.ndd, R.pw, R.tw, R.pt, R.pd, R.mw, (let ⟨q, a, b⟩ := R.sb; ⟨q, s _ _ a, b⟩), R.sp, R.sd⟩
theorem nin_ins {as : List Addr} {ws : List Wk} {ds : List Addr} (h : WksAt k K CW H0 H ds as ws) (hq : ∀ C dx fs, H q ≠ some (.ins C dx fs)) : q ∉ as := fun z => by
  obtain ⟨dx, fs, e⟩ := h.mem q z
  exact hq _ _ _ e
theorem nin_dk {ds : List Addr} {ns : List Nm} (h : EnvsAt H c ds ns) (hq : ∀ kvs, H q ≠ some (.dK kvs)) : q ∉ ds := fun z => by
  obtain ⟨kvs, e⟩ := h.mem q z
  exact hq _ e
theorem RunIn.envAt (R : RunIn k K CR CW CT H0 H A S c) {j : Nat} {d : Addr} (hd : A.ds[j]? = some d) : H d = some (.dK (envD (S.env j))) ∧ Small (S.env j) ∧ (S.env j).length ≤ c + 10 := R.en.get hd
theorem RunIn.one (R : RunIn k K CR CW CT H0 H A S c) (hc : S.cnt < 2000) : RunIn k K CR CW CT H0 (upd H A.t (.ins CT A.tdx (fT A.mv A.pl ((S.cnt : Int) + 1)))) A S.one c := by
  obtain ⟨ts, m1, m2⟩ := R.mv
  have nt : ∀ m, H A.t ≠ some (.tup m) := fun m e => by rw [R.tr] at e; cases e
  have ne : ∀ b u, H b = some u → (∀ C dx fs, u ≠ .ins C dx fs) → b ≠ A.t := fun b u e hu z => by
    rw [z, R.tr] at e
    cases e
    exact hu _ _ _ rfl
  have keep : ∀ b u, H b = some u → (∀ C dx fs, u ≠ .ins C dx fs) → upd H A.t (.ins CT A.tdx (fT A.mv A.pl ((S.cnt : Int) + 1))) b = some u := fun b u e hu => by rw [upd_ne (ne b u e hu)]; exact e
  refine ⟨same_in R.same R.nt, by rw [upd_ne R.pt]; exact R.run, ?_, ⟨ts, keep _ _ m1 (fun _ _ _ z => by cases z), m2.upd nt⟩, keep _ _ R.pl (fun _ _ _ z => by cases z), R.plk, keep _ _ R.wk (fun _ _ _ z => by cases z), R.ws.upd R.tw, ?_, ?_, R.np, R.nt, R.nmv, R.npl, R.nwk, R.nws, R.nds, R.ndw, R.ndd, R.pw, R.tw, R.pt, R.pd, R.mw, (let ⟨q, a, b⟩ := R.sb; ⟨q, keep _ _ a (fun _ _ _ z => by cases z), b⟩), R.sp, R.sd⟩
  · rw [upd_same]
    show _ = some (HO.ins CT A.tdx (fT A.mv A.pl ((S.cnt + 1 : Nat) : Int)))
    rw [show ((S.cnt + 1 : Nat) : Int) = (S.cnt : Int) + 1 by (first | lia | omega)]
  · exact EnvsAt.upd (nin_dk R.en fun kvs e => by rw [R.tr] at e; cases e) R.en
  · have := R.le
    exact ⟨by show c ≤ S.cnt + 1; (first | lia | omega), by show S.cnt + 1 ≤ 2000; (first | lia | omega), this.2.2⟩
theorem RunIn.let_ (R : RunIn k K CR CW CT H0 H A S c) {j : Nat} {d : Addr} {x : Str} {i : Int} (hd : A.ds[j]? = some d) (hi : -1000000 ≤ i ∧ i ≤ 1000000) (hl : c < S.cnt) :
    RunIn k K CR CW CT H0 (upd H d (.dK (envD (put (S.env j) x i)))) A (S.let_ j x i) (c + 1) := by
  obtain ⟨ts, m1, m2⟩ := R.mv
  obtain ⟨g1, g2, g3⟩ := R.en.get hd
  have dm := List.mem_of_getElem? hd
  have keep : ∀ b u, H b = some u → (∀ kvs, u ≠ .dK kvs) → upd H d (.dK (envD (put (S.env j) x i))) b = some u := fun b u e hu => by
    rw [upd_ne (fun z => by rw [z, g1] at e; cases e; exact hu _ rfl)]; exact e
  refine ⟨same_in R.same (R.nds d dm), keep _ _ R.run (fun _ z => by cases z), keep _ _ R.tr (fun _ z => by cases z), ⟨ts, keep _ _ m1 (fun _ z => by cases z), m2.upd (fun m e => by rw [g1] at e; cases e)⟩, ?_, R.plk, keep _ _ R.wk (fun _ z => by cases z), R.ws.upd (nin_ins R.ws fun _ _ _ e => by rw [g1] at e; cases e), ?_, ?_, R.np, R.nt, R.nmv, R.npl, R.nwk, R.nws, R.nds, R.ndw, R.ndd, R.pw, R.tw, R.pt, R.pd, R.mw, (let ⟨q, a, b⟩ := R.sb; ⟨q, by rw [upd_ne (fun z => R.sd (by rw [z]; exact dm))]; exact a, b⟩), R.sp, R.sd⟩
  · rw [upd_ne (fun z => R.pd (by rw [z]; exact dm))]
    exact R.pl
  · exact EnvsAt.set ⟨put_small g2 hi, Nat.le_trans (len_put _ _ _) (Nat.succ_le_succ g3)⟩ R.ndd (EnvsAt.more (Nat.le_succ _) R.en) hd
  · have := R.le
    exact ⟨hl, this.2.1, by show S.moves.length ≤ c + 1; (first | lia | omega), by show S.stk.length ≤ c + 1 + 1; (first | lia | omega)⟩
theorem RunIn.say (R : RunIn k K CR CW CT H0 H A S c) {t : Addr} {m : List V} {ts : List Addr} (m1 : H A.mv = some (.lst (ts.map V.ref))) (m2 : MvAt H ts S.moves) (ht : H t = none) (hl : c < S.cnt) :
    RunIn k K CR CW CT H0 (upd (upd H t (.tup m)) A.mv (.lst (ts.map V.ref ++ [.ref t]))) A (S.say m) (c + 1) := by
  have s1 : Same H (upd H t (.tup m)) := same_upd ht _
  have R1 := R.same' s1
  have e1 : upd H t (.tup m) A.mv = some (.lst (ts.map V.ref)) := s1 _ _ m1
  have keep : ∀ b u, upd H t (.tup m) b = some u → (∀ xs, u ≠ .lst xs) → upd (upd H t (.tup m)) A.mv (.lst (ts.map V.ref ++ [.ref t])) b = some u := fun b u e hu => by
    rw [upd_ne (fun z => by rw [z, e1] at e; cases e; exact hu _ rfl)]; exact e
  have nt : ∀ x, upd H t (.tup m) A.mv ≠ some (.tup x) := fun x e => by rw [e1] at e; cases e
  refine ⟨same_in R1.same R.nmv, keep _ _ R1.run (fun _ z => by cases z), keep _ _ R1.tr (fun _ z => by cases z), ⟨ts ++ [t], ?_, ?_⟩, keep _ _ R1.pl (fun _ z => by cases z), R.plk, ?_, R1.ws.upd (nin_ins R1.ws fun _ _ _ e => by rw [e1] at e; cases e), EnvsAt.more (Nat.le_succ _) (EnvsAt.upd (nin_dk R1.en fun kvs e => by rw [e1] at e; cases e) R1.en), ?_, R.np, R.nt, R.nmv, R.npl, R.nwk, R.nws, R.nds, R.ndw, R.ndd, R.pw, R.tw, R.pt, R.pd, R.mw, (let ⟨q, a, b⟩ := R1.sb; ⟨q, keep _ _ a (fun _ z => by cases z), b⟩), R.sp, R.sd⟩
  · rw [upd_same, List.map_append]
    rfl
  · refine MvAt.upd nt ((m2.same s1).snoc upd_same)
  · rw [upd_ne (Ne.symm R.mw)]
    exact R1.wk
  · have := R.le
    exact ⟨hl, this.2.1, by show (S.moves ++ [m]).length ≤ c + 1; rw [List.length_append, List.length_singleton]; (first | lia | omega), by show S.stk.length ≤ c + 1 + 1; (first | lia | omega)⟩
theorem RunIn.putp (R : RunIn k K CR CW CT H0 H A S c) {a : Str} {i : Int} (ha : a = "x" ∨ a = "y" ∨ a = "z") : RunIn k K CR CW CT H0 (upd H A.pl (.dK (envD (put S.pl a i)))) A (S.put a i) c := by
  obtain ⟨ts, m1, m2⟩ := R.mv
  have keep : ∀ b u, H b = some u → (∀ kvs, u ≠ .dK kvs) → upd H A.pl (.dK (envD (put S.pl a i))) b = some u := fun b u e hu => by
    rw [upd_ne (fun z => by rw [z, R.pl] at e; cases e; exact hu _ rfl)]; exact e
  exact ⟨same_in R.same R.npl, keep _ _ R.run (fun _ z => by cases z), keep _ _ R.tr (fun _ z => by cases z), ⟨ts, keep _ _ m1 (fun _ z => by cases z), m2.upd (fun m e => by rw [R.pl] at e; cases e)⟩, upd_same, R.plk.put ha i, keep _ _ R.wk (fun _ z => by cases z), R.ws.upd (nin_ins R.ws fun _ _ _ e => by rw [R.pl] at e; cases e), R.en.upd R.pd, R.le, R.np, R.nt, R.nmv, R.npl, R.nwk, R.nws, R.nds, R.ndw, R.ndd, R.pw, R.tw, R.pt, R.pd, R.mw, (let ⟨q, a, b⟩ := R.sb; ⟨q, by rw [upd_ne R.sp]; exact a, b⟩), R.sp, R.sd⟩
theorem RunIn.push (R : RunIn k K CR CW CT H0 H A S c) {a b dx d : Addr} {w : Wk} (s1 : Same H H') (ha : H a = none) (hw : H' a = some (.ins CW dx (fW b d w.oc (w.at_ : Int) w.ctr w.turn w.turns))) (hd : A.ds[w.fr]? = some d)
    (hb : Rp K H0 (.ref b) (.list (dats w.body))) (hk : oks k w.body) (h1 : w.at_ ≤ w.body.length) (h2 : 0 ≤ w.turn) (h3 : w.turns ≤ 1000000) (hl : c < S.cnt) :
    RunIn k K CR CW CT H0 (upd H' A.wk (.lst (A.ws.reverse.map V.ref ++ [.ref a]))) { A with ws := a :: A.ws } (S.push w) (c + 1) := by
  have R1 := R.same' s1
  obtain ⟨ts, m1, m2⟩ := R1.mv
  have keep : ∀ b u, H' b = some u → (∀ xs, u ≠ .lst xs) → upd H' A.wk (.lst (A.ws.reverse.map V.ref ++ [.ref a])) b = some u := fun b u e hu => by
    rw [upd_ne (fun z => by rw [z, R1.wk] at e; cases e; exact hu _ rfl)]; exact e
  have new : ∀ c u, H c = some u → c ≠ a := fun c u e => ne_of_none e ha
  refine ⟨same_in R1.same R.nwk, keep _ _ R1.run (fun _ z => by cases z), keep _ _ R1.tr (fun _ z => by cases z), ⟨ts, by rw [upd_ne R.mw]; exact m1, m2.upd (fun m e => by rw [R1.wk] at e; cases e)⟩, keep _ _ R1.pl (fun _ z => by cases z), R.plk, ?_, ⟨⟨b, dx, d, keep _ _ hw (fun _ z => by cases z), hd, hb, hk, h1, h2, h3⟩, R1.ws.upd (nin_ins R1.ws fun _ _ _ e => by rw [R1.wk] at e; cases e)⟩,
    EnvsAt.more (Nat.le_succ _) (EnvsAt.upd (nin_dk R1.en fun kvs e => by rw [R1.wk] at e; cases e) R1.en), ?_, R.np, R.nt, R.nmv, R.npl, R.nwk, ?_, R.nds, ?_, R.ndd, ?_, ?_, R.pt, R.pd, R.mw, (let ⟨q, a, b⟩ := R1.sb; ⟨q, keep _ _ a (fun _ z => by cases z), b⟩), R.sp, R.sd⟩
  · rw [upd_same]
    show _ = some (HO.lst ((a :: A.ws).reverse.map V.ref))
    rw [List.reverse_cons, List.map_append]
    rfl
  · have := R.le
    exact ⟨hl, this.2.1, by show S.moves.length ≤ c + 1; (first | lia | omega), by show (w :: S.stk).length ≤ c + 1 + 1; rw [List.length_cons]; (first | lia | omega)⟩
  · intro c hc
    rcases List.mem_cons.mp hc with rfl | hc
    · exact R.same.free ha
    · exact R.nws c hc
  · refine List.nodup_cons.mpr ⟨fun z => ?_, R.ndw⟩
    obtain ⟨dx', fs, e⟩ := R.ws.mem a z
    rw [ha] at e
    cases e
  · intro z
    rcases List.mem_cons.mp z with z | z
    · exact new _ _ R.run z
    · exact R.pw z
  · intro z
    rcases List.mem_cons.mp z with z | z
    · exact new _ _ R.tr z
    · exact R.tw z
theorem RunIn.pop (R : RunIn k K CR CW CT H0 H A S c) {a : Addr} {as : List Addr} {w : Wk} {r : List Wk} (ha : A.ws = a :: as) (hs : S.stk = w :: r) :
    RunIn k K CR CW CT H0 (upd H A.wk (.lst (as.reverse.map V.ref))) { A with ws := as } { S with stk := r } c := by
  obtain ⟨ts, m1, m2⟩ := R.mv
  have keep : ∀ b u, H b = some u → (∀ xs, u ≠ .lst xs) → upd H A.wk (.lst (as.reverse.map V.ref)) b = some u := fun b u e hu => by
    rw [upd_ne (fun z => by rw [z, R.wk] at e; cases e; exact hu _ rfl)]; exact e
  have W := R.ws
  rw [ha, hs] at W
  have n := R.ndw
  rw [ha] at n
  refine ⟨same_in R.same R.nwk, keep _ _ R.run (fun _ z => by cases z), keep _ _ R.tr (fun _ z => by cases z), ⟨ts, by rw [upd_ne R.mw]; exact m1, m2.upd (fun m e => by rw [R.wk] at e; cases e)⟩, keep _ _ R.pl (fun _ z => by cases z), R.plk, upd_same, W.2.upd (nin_ins W.2 fun _ _ _ e => by rw [R.wk] at e; cases e),
    EnvsAt.upd (nin_dk R.en fun kvs e => by rw [R.wk] at e; cases e) R.en, ?_, R.np, R.nt, R.nmv, R.npl, R.nwk, fun c hc => R.nws c (by rw [ha]; exact List.mem_cons_of_mem _ hc), R.nds, (List.nodup_cons.mp n).2, R.ndd, fun z => R.pw (by rw [ha]; exact List.mem_cons_of_mem _ z), fun z => R.tw (by rw [ha]; exact List.mem_cons_of_mem _ z), R.pt, R.pd, R.mw, (let ⟨q, a, b⟩ := R.sb; ⟨q, keep _ _ a (fun _ z => by cases z), b⟩), R.sp, R.sd⟩
  have := R.le
  rw [hs] at this
  exact ⟨this.1, this.2.1, this.2.2.1, by have := this.2.2.2; rw [List.length_cons] at this; show r.length ≤ c + 1; (first | lia | omega)⟩
theorem RunIn.top (R : RunIn k K CR CW CT H0 H A S c) {a b dx d : Addr} {as : List Addr} {w w' : Wk} {r : List Wk} (ha : A.ws = a :: as) (hs : S.stk = w :: r) (hd : A.ds[w'.fr]? = some d) (hb : Rp K H0 (.ref b) (.list (dats w'.body))) (hk : oks k w'.body) (h1 : w'.at_ ≤ w'.body.length) (h2 : 0 ≤ w'.turn) (h3 : w'.turns ≤ 1000000) :
    RunIn k K CR CW CT H0 (upd H a (.ins CW dx (fW b d w'.oc (w'.at_ : Int) w'.ctr w'.turn w'.turns))) A { S with stk := w' :: r } c := by
  obtain ⟨ts, m1, m2⟩ := R.mv
  have W := R.ws
  rw [ha, hs] at W
  have n := R.ndw
  rw [ha] at n
  obtain ⟨⟨b0, dx0, d0, e0, _⟩, W2⟩ := W
  have keep : ∀ c u, H c = some u → (∀ C dx fs, u ≠ .ins C dx fs) → upd H a (.ins CW dx (fW b d w'.oc (w'.at_ : Int) w'.ctr w'.turn w'.turns)) c = some u := fun c u e hu => by
    rw [upd_ne (fun z => by rw [z, e0] at e; cases e; exact hu _ _ _ rfl)]; exact e
  have am : a ∈ A.ws := by rw [ha]; exact List.mem_cons_self
  refine ⟨same_in R.same (R.nws a am), by rw [upd_ne (fun z => R.pw (by rw [z]; exact am))]; exact R.run, by rw [upd_ne (fun z => R.tw (by rw [z]; exact am))]; exact R.tr, ⟨ts, keep _ _ m1 (fun _ _ _ z => by cases z), m2.upd (fun m e => by rw [e0] at e; cases e)⟩, keep _ _ R.pl (fun _ _ _ z => by cases z), R.plk, keep _ _ R.wk (fun _ _ _ z => by cases z), ?_,
    EnvsAt.upd (nin_dk R.en fun kvs e => by rw [e0] at e; cases e) R.en, ?_, R.np, R.nt, R.nmv, R.npl, R.nwk, R.nws, R.nds, R.ndw, R.ndd, R.pw, R.tw, R.pt, R.pd, R.mw, (let ⟨q, a, b⟩ := R.sb; ⟨q, keep _ _ a (fun _ _ _ z => by cases z), b⟩), R.sp, R.sd⟩
  · rw [ha]
    exact ⟨⟨b, dx, d, upd_same, hd, hb, hk, h1, h2, h3⟩, W2.upd (List.nodup_cons.mp n).1⟩
  · have := R.le
    rw [hs] at this
    exact this
theorem WksAt.more {D : Addr} : ∀ {as : List Addr} {ws : List Wk}, WksAt k K CW H0 H A.ds as ws → WksAt k K CW H0 H (A.ds ++ [D]) as ws
  | [], [], _ => True.intro
  | _ :: _, _ :: _, ⟨⟨b, dx, d, h, e, r⟩, t⟩ => ⟨⟨b, dx, d, h, by rw [List.getElem?_append_left (List.getElem?_eq_some_iff.mp e).1]; exact e, r⟩, WksAt.more t⟩
  | [], _ :: _, h => h.elim
  | _ :: _, [], h => h.elim
theorem EnvsAt.len : ∀ {ds : List Addr} {ns : List Nm}, EnvsAt H c ds ns → ds.length = ns.length
  | [], [], _ => rfl
  | _ :: _, _ :: _, h => by rw [List.length_cons, List.length_cons, EnvsAt.len h.2]
  | [], _ :: _, h => h.elim
  | _ :: _, [], h => h.elim
theorem EnvsAt.snoc {D : Addr} {n : Nm} (h : H D = some (.dK (envD n)) ∧ Small n ∧ n.length ≤ c + 10) : ∀ {ds : List Addr} {ns : List Nm}, EnvsAt H c ds ns → EnvsAt H c (ds ++ [D]) (ns ++ [n])
  | [], [], _ => ⟨h, True.intro⟩
  | _ :: _, _ :: _, g => ⟨g.1, EnvsAt.snoc h g.2⟩
  | [], _ :: _, g => g.elim
  | _ :: _, [], g => g.elim
theorem RunIn.call (R : RunIn k K CR CW CT H0 H A S c) {a b dx D : Addr} {nm : Nm} {bd : List Stm} (s1 : Same H H') (ha : H a = none) (hD : H D = none) (hw : H' a = some (.ins CW dx (fW b D true 0 "" 0 0))) (hDn : H' D = some (.dK (envD nm))) (hn : Small nm ∧ nm.length ≤ 10)
    (hb : Rp K H0 (.ref b) (.list (dats bd))) (hk : oks k bd) (hl : c < S.cnt) :
    RunIn k K CR CW CT H0 (upd H' A.wk (.lst (A.ws.reverse.map V.ref ++ [.ref a]))) { A with ws := a :: A.ws, ds := A.ds ++ [D] } { S with envs := S.envs ++ [nm], stk := ⟨bd, S.envs.length, true, 0, "", 0, 0⟩ :: S.stk } (c + 1) := by
  have R1 := R.same' s1
  obtain ⟨ts, m1, m2⟩ := R1.mv
  have keep : ∀ b u, H' b = some u → (∀ xs, u ≠ .lst xs) → upd H' A.wk (.lst (A.ws.reverse.map V.ref ++ [.ref a])) b = some u := fun b u e hu => by
    rw [upd_ne (fun z => by rw [z, R1.wk] at e; cases e; exact hu _ rfl)]; exact e
  have new : ∀ c u, H c = some u → c ≠ a := fun c u e => ne_of_none e ha
  have newD : ∀ c u, H c = some u → c ≠ D := fun c u e => ne_of_none e hD
  have dl := EnvsAt.len R.en
  have nwd : ∀ kvs, H' A.wk ≠ some (.dK kvs) := fun kvs e => by rw [R1.wk] at e; cases e
  have en2 := EnvsAt.snoc (H := upd H' A.wk (.lst (A.ws.reverse.map V.ref ++ [.ref a]))) (c := c + 1) (D := D) (n := nm) ⟨keep _ _ hDn (fun _ z => by cases z), hn.1, by have := hn.2; (first | lia | omega)⟩ (EnvsAt.more (Nat.le_succ _) (EnvsAt.upd (nin_dk R1.en nwd) R1.en))
  refine ⟨same_in R1.same R.nwk, keep _ _ R1.run (fun _ z => by cases z), keep _ _ R1.tr (fun _ z => by cases z), ⟨ts, by rw [upd_ne R.mw]; exact m1, m2.upd (fun m e => by rw [R1.wk] at e; cases e)⟩, keep _ _ R1.pl (fun _ z => by cases z), R.plk, ?_, ⟨⟨b, dx, D, keep _ _ hw (fun _ z => by cases z), ?_, hb, hk, Nat.zero_le _, Int.le_refl _, (show (0 : Int) ≤ 1000000 by decide)⟩, WksAt.more (R1.ws.upd (nin_ins R1.ws fun _ _ _ e => by rw [R1.wk] at e; cases e))⟩,
    en2, ?_, R.np, R.nt, R.nmv, R.npl, R.nwk, ?_, ?_, ?_, ?_, ?_, ?_, R.pt, ?_, R.mw, (let ⟨q, e, g⟩ := R1.sb; ⟨q, keep _ _ e (fun _ z => by cases z), g⟩), R.sp, ?_⟩
  · rw [upd_same]
    show _ = some (HO.lst ((a :: A.ws).reverse.map V.ref))
    rw [List.reverse_cons, List.map_append]
    rfl
  · show (A.ds ++ [D])[S.envs.length]? = some D
    rw [← dl, List.getElem?_append_right (Nat.le_refl _), Nat.sub_self]
    rfl
  · have := R.le
    exact ⟨hl, this.2.1, by show S.moves.length ≤ c + 1; (first | lia | omega), by show (S.stk.length + 1) ≤ c + 1 + 1; (first | lia | omega)⟩
  · intro c hc
    rcases List.mem_cons.mp hc with rfl | hc
    · exact R.same.free ha
    · exact R.nws c hc
  · intro c hc
    rcases List.mem_append.mp hc with hc | hc
    · exact R.nds c hc
    · rw [List.mem_singleton.mp hc]
      exact R.same.free hD
  · refine List.nodup_cons.mpr ⟨fun z => ?_, R.ndw⟩
    obtain ⟨dx', fs, e⟩ := R.ws.mem a z
    rw [ha] at e
    cases e
  · refine List.nodup_append.mpr ⟨R.ndd, by simp, fun x hx y hy z => ?_⟩
    obtain ⟨kvs, e⟩ := R.en.mem x hx
    rw [z, List.mem_singleton.mp hy, hD] at e
    cases e
  · intro z
    rcases List.mem_cons.mp z with z | z
    · exact new _ _ R.run z
    · exact R.pw z
  · intro z
    rcases List.mem_cons.mp z with z | z
    · exact new _ _ R.tr z
    · exact R.tw z
  · intro z
    rcases List.mem_append.mp z with z | z
    · exact R.pd z
    · exact newD _ _ R.pl (List.mem_singleton.mp z)
  · intro z
    obtain ⟨q, e, _⟩ := R.sb
    rcases List.mem_append.mp z with z | z
    · exact R.sd z
    · exact newD _ _ e (List.mem_singleton.mp z)
end
end Car

set_option maxHeartbeats 1000000
namespace Car
open PySem L2
noncomputable abbrev sWalkI : Stmt := inClass (top 14) 0
noncomputable abbrev sRunI : Stmt := inClass (top 15) 0
noncomputable abbrev sGo : Stmt := inClass (top 15) 1
noncomputable abbrev sStep : Stmt := inClass (top 15) 2
noncomputable abbrev sTurn : Stmt := inClass (top 15) 3
noncomputable abbrev sDo : Stmt := inClass (top 15) 4
noncomputable abbrev sCall : Stmt := inClass (top 15) 5
noncomputable abbrev sTimes : Stmt := inClass (top 15) 6
noncomputable abbrev sIf : Stmt := inClass (top 15) 7
noncomputable abbrev sRun : Stmt := top 16
section
variable {K : PySem.W.Frag} {H : Hp} {v : V}
theorem stHold {e : Ex} (h : Rp K H v (Stm.hold e).dat) : ∃ a x, v = .ref a ∧ SqT K H a [.str "hold", x] ∧ Rp K H x e.dat := by
  rw [Stm.dat] at h
  obtain ⟨a, xs, rfl, h1, r⟩ := Rp.tupO h
  obtain ⟨x, xs, rfl, hx, r⟩ := r.consO
  obtain ⟨y, xs, rfl, hy, r⟩ := r.consO
  cases r.nilO
  cases hx.strO
  exact ⟨a, y, rfl, h1, hy⟩
theorem stLet {n : Str} {e : Ex} (h : Rp K H v (Stm.lt n e).dat) : ∃ a x, v = .ref a ∧ SqT K H a [.str "let", .str n, x] ∧ Rp K H x e.dat := by
  rw [Stm.dat] at h
  obtain ⟨a, xs, rfl, h1, r⟩ := Rp.tupO h
  obtain ⟨x, xs, rfl, hx, r⟩ := r.consO
  obtain ⟨y, xs, rfl, hy, r⟩ := r.consO
  obtain ⟨z, xs, rfl, hz, r⟩ := r.consO
  cases r.nilO
  cases hx.strO
  cases hy.strO
  exact ⟨a, z, rfl, h1, hz⟩
theorem stMove {m ax : Str} {e : Ex} {b : Bool} (h : Rp K H v (Stm.move m ax e b).dat) : ∃ a x, v = .ref a ∧ SqT K H a [.str "move", .str m, .str ax, x, .bl b] ∧ Rp K H x e.dat := by
  rw [Stm.dat] at h
  obtain ⟨a, xs, rfl, h1, r⟩ := Rp.tupO h
  obtain ⟨x, xs, rfl, hx, r⟩ := r.consO
  obtain ⟨y, xs, rfl, hy, r⟩ := r.consO
  obtain ⟨z, xs, rfl, hz, r⟩ := r.consO
  obtain ⟨u, xs, rfl, hu, r⟩ := r.consO
  obtain ⟨t, xs, rfl, ht, r⟩ := r.consO
  cases r.nilO
  cases hx.strO
  cases hy.strO
  cases hz.strO
  cases ht.blO
  exact ⟨a, u, rfl, h1, hu⟩
theorem stTimes {n : Str} {e : Ex} {b : List Stm} (h : Rp K H v (Stm.times n e b).dat) : ∃ a x y, v = .ref a ∧ SqT K H a [.str "times", .str n, x, .ref y] ∧ Rp K H x e.dat ∧ Rp K H (.ref y) (.list (dats b)) := by
  rw [Stm.dat] at h
  obtain ⟨a, xs, rfl, h1, r⟩ := Rp.tupO h
  obtain ⟨x, xs, rfl, hx, r⟩ := r.consO
  obtain ⟨y, xs, rfl, hy, r⟩ := r.consO
  obtain ⟨z, xs, rfl, hz, r⟩ := r.consO
  obtain ⟨u, xs, rfl, hu, r⟩ := r.consO
  cases r.nilO
  cases hx.strO
  cases hy.strO
  obtain ⟨l, _, rfl, _⟩ := Rp.lstO hu
  exact ⟨a, z, l, rfl, h1, hz, hu⟩
theorem stIf {s : Str} {e f : Ex} {b c : List Stm} (h : Rp K H v (Stm.iff s e f b c).dat) : ∃ a x y p q, v = .ref a ∧ SqT K H a [.str "if", .str s, x, y, .ref p, .ref q] ∧ Rp K H x e.dat ∧ Rp K H y f.dat ∧ Rp K H (.ref p) (.list (dats b)) ∧ Rp K H (.ref q) (.list (dats c)) := by
  rw [Stm.dat] at h
  obtain ⟨a, xs, rfl, h1, r⟩ := Rp.tupO h
  obtain ⟨x, xs, rfl, hx, r⟩ := r.consO
  obtain ⟨y, xs, rfl, hy, r⟩ := r.consO
  obtain ⟨z, xs, rfl, hz, r⟩ := r.consO
  obtain ⟨u, xs, rfl, hu, r⟩ := r.consO
  obtain ⟨t, xs, rfl, ht, r⟩ := r.consO
  obtain ⟨g, xs, rfl, hg, r⟩ := r.consO
  cases r.nilO
  cases hx.strO
  cases hy.strO
  obtain ⟨l, _, rfl, _⟩ := Rp.lstO ht
  obtain ⟨l2, _, rfl, _⟩ := Rp.lstO hg
  exact ⟨a, z, u, l, l2, rfl, h1, hz, hu, ht, hg⟩
end
structure RunT (K : PySem.W.Frag) (mg : Str → Option Value) (CR CW CT : Addr) : Prop where
  clR : Cls K CR
  clW : Cls K CW
  clT : Cls K CT
  nSubs : NoAttr K CR "subs"
  nTrack : NoAttr K CR "track"
  nMoves : NoAttr K CT "moves"
  nPlaces : NoAttr K CT "places"
  nCounted : NoAttr K CT "counted"
  nWalks : NoAttr K CR "walks"
  nBody : NoAttr K CW "body"
  nNames : NoAttr K CW "names"
  nOf : NoAttr K CW "of_call"
  nAt : NoAttr K CW "at"
  nCounter : NoAttr K CW "counter"
  nTurn : NoAttr K CW "turn"
  nTurns : NoAttr K CW "turns"
  len : mg "len" = none
  dict : mg "dict" = none
  cnt : ∃ t, mg "MOST_COUNTED" = some (.int 2000 t)
noncomputable def Fin (k : Nat) (K : PySem.W.Frag) (C CR CW CT : Addr) (H0 : Hp) (p : Addr) (Q : VK) (E : XK) : Res → Prop
  | .ok S' => ∀ H' A', RunIn k K CR CW CT H0 H' A' S' S'.cnt → A'.p = p → Q .non H'
  | .stop S' d => ∀ dx v H' A' c, RunIn k K CR CW CT H0 H' A' S' c → A'.p = p → H' dx = some (.xd [("end", v)]) → Rp K H' v d → E (.ref C) (some dx) H'
  | .bad => False
section
variable {k : Nat} {P : Program} {w : World} {K : PySem.W.Frag} {mg : Str → Option Value} {base : Heap} {C CR CW CT fI f : Addr} {fd fd' : FuncData}
theorem Fin.xe {H0 H : Hp} {A : RA} {S : RS} {c : Nat} {Q : VK} {E : XK} {d : PyData} (R : RunIn k K CR CW CT H0 H A S c) (h : Fin k K C CR CW CT H0 A.p Q E (.stop S d)) : XE K C H E d := fun dx v H' s h1 h2 => h dx v H' A c (R.same' s) rfl h1 h2

noncomputable def spWalk (CW : Addr) : Sp := fun vs H Q _ => ∃ x dx b d oc, vs = [.ref x, .ref b, .ref d, .bl oc] ∧ H x = some (.ins CW dx []) ∧ Q .non (upd H x (.ins CW dx (fW b d oc 0 "" 0 0)))
theorem scWalkI : FnScope ["self", "body", "names", "of_call"] ["self", "body", "names", "of_call"] (defScope sWalkI) := ⟨rfl, rfl, rfl, by decide +kernel, rfl, by decide +kernel, by decide +kernel⟩
theorem ok_walk (T : RunT K mg CR CW CT) (F : Fun K "__init__" "Walk.__init__" sWalkI f fd') : FnOk P w K mg base (CX1 P w) 1 f fd' ["self", "body", "names", "of_call"] (spWalk CW) := by
  refine F.ok1 scWalkI (fun vs H Q E h => ?_) (fun cdv A outer s H vs Q E hr h => ?_)
  · obtain ⟨x, dx, b, d, oc, rfl, _⟩ := h
    rfl
  obtain ⟨x, dx, b, d, oc, rfl, hx, q⟩ := h
  refine ⟨_, (pss_cons (ps_fld (pv 0) (pv 1) rfl)
    (pss_cons (ps_fld (pv 0) (pv 2) rfl)
    (pss_cons (ps_fld (pv 0) (pv 3) rfl)
    (pss_cons (ps_fld (pv 0) pe_int rfl)
    (pss_cons (ps_fld (pv 0) pe_str rfl)
    (pss_cons (ps_fld (pv 0) pe_int rfl)
    (pss_one (ps_fld (pv 0) pe_int rfl)))))))), ?_⟩
  refine ⟨_, rfl, _, rfl, x, CW, dx, _, rfl, hx, T.clW, T.nBody, (by decide), ?_⟩
  refine ⟨_, rfl, _, rfl, x, CW, dx, _, rfl, upd_same, T.clW, T.nNames, (by show 1 < 1000; decide), ?_⟩
  refine ⟨_, rfl, _, rfl, x, CW, dx, _, rfl, upd_same, T.clW, T.nOf, (by show 2 < 1000; decide), ?_⟩
  refine ⟨_, rfl, x, CW, dx, _, rfl, upd_same, T.clW, T.nAt, (by show 3 < 1000; decide), ?_⟩
  refine ⟨_, rfl, x, CW, dx, _, rfl, upd_same, T.clW, T.nCounter, (by show 4 < 1000; decide), ?_⟩
  refine ⟨_, rfl, x, CW, dx, _, rfl, upd_same, T.clW, T.nTurn, (by show 5 < 1000; decide), ?_⟩
  refine ⟨_, rfl, x, CW, dx, _, rfl, upd_same, T.clW, T.nTurns, (by show 6 < 1000; decide), ?_⟩
  simp only [upd_upd]
  exact q

noncomputable def spOne (k : Nat) (K : PySem.W.Frag) (C CR CW CT : Addr) : Sp := fun vs H Q E => ∃ H0 A S c, vs = [.ref A.t] ∧ RunIn k K CR CW CT H0 H A S c ∧
  if S.cnt = 2000 then XE K C H E dLong else Q .non (upd H A.t (.ins CT A.tdx (fT A.mv A.pl ((S.cnt : Int) + 1))))
theorem scOne : FnScope ["self"] ["self"] (defScope sOne) := ⟨rfl, rfl, rfl, by decide +kernel, rfl, by decide +kernel, by decide +kernel⟩
theorem ok_one (T : RunT K mg CR CW CT) (S : StopT P w K mg base C fI fd) (F : Fun K "count_one" "Track.count_one" sOne f fd') : FnOk P w K mg base (CX1 P w) 3 f fd' ["self"] (spOne k K C CR CW CT) := by
  refine F.ok1 scOne (fun vs H Q E h => ?_) (fun cdv A outer s H vs Q E hr h => ?_)
  · obtain ⟨H0, A, S, c, rfl, _⟩ := h
    rfl
  obtain ⟨H0, A, S', c, rfl, R, q⟩ := h
  obtain ⟨tk, hnum⟩ := T.cnt
  refine ⟨_, (pss_cons (ps_if (pt_cmpR op_eq (pe_fld (pv 0) rfl) (pe_glob (v := .int 2000) rfl hnum ⟨_, rfl⟩) (nomark _)) (pss_one (ps_raiseI S.S rfl rfl rfl flies1 S.ok hr S.bi (pa_cons (pe_tup (pa_cons pe_str pa_nil)) pa_nil))) pss_nil)
    (pss_one (ps_fldaug (pv 0) pe_int in_add))), ?_⟩
  refine ⟨_, rfl, _, _, _, _, _, rfl, R.tr, T.clT, T.nCounted, rfl, rfl, _, rfl, ?_⟩
  refine ite2 (fun e => ?_) (fun e => ?_)
  · have e' : V.int (S'.cnt : Int) = V.int 2000 := of_decide_eq_true e
    have e2 : S'.cnt = 2000 := by injection e' with z; (first | lia | omega)
    rw [if_pos e2] at q
    refine ⟨by show 1 ≤ sizeLine; decide, fun p hp => ⟨by show 1 ≤ sizeLine; decide, ?_⟩⟩
    exact stop_ok hp (.tup (SqT.of upd_same) (.cons (.str _) .nil)) q
  · have e' : ¬ V.int (S'.cnt : Int) = V.int 2000 := of_decide_eq_false (Bool.eq_false_iff.mpr e)
    have e2 : ¬ S'.cnt = 2000 := fun z => e' (by rw [z]; rfl)
    rw [if_neg e2] at q
    exact ⟨_, rfl, _, _, _, _, _, rfl, R.tr, T.clT, T.nCounted, rfl, _, _, rfl, rfl, _, _, R.tr, (by show 3 < 1000; decide), q⟩
end
end Car

set_option maxHeartbeats 1000000
namespace Car
open PySem L2
section
variable {k : Nat} {P : Program} {w : World} {K : PySem.W.Frag} {mg : Str → Option Value} {base : Heap} {C CR CW CT fI f : Addr} {fd fd' : FuncData}
noncomputable def spStm (k : Nat) (K : PySem.W.Frag) (C CR CW CT : Addr) (kind : Stm → Prop) : Sp := fun vs H Q E => ∃ H0 A S c fr d v st, vs = [.ref A.p, v, .ref d] ∧ RunIn k K CR CW CT H0 H A S c ∧ c + 1 = S.cnt ∧ Rp K H0 v st.dat ∧ st.ok k ∧ A.ds[fr]? = some d ∧ kind st ∧ Fin k K C CR CW CT H0 A.p Q E (doS S fr st)
theorem line3 {n c : Nat} (h : n ≤ c) (h2 : c ≤ 2000) : n < sizeLine := Nat.lt_of_le_of_lt (Nat.le_trans h h2) (by decide)

noncomputable def spHold (k : Nat) (K : PySem.W.Frag) (CR CW CT : Addr) : Sp := fun vs H Q _ => ∃ H0 A S c i, vs = [.ref A.t, .int i] ∧ RunIn k K CR CW CT H0 H A S c ∧ c < S.cnt ∧ ∀ H', RunIn k K CR CW CT H0 H' A (S.say [.str "hold", .int i]) (c + 1) → Q .non H'
theorem scMHold : FnScope ["self", "number"] ["self", "number"] (defScope sMHold) := ⟨rfl, rfl, rfl, by decide +kernel, rfl, by decide +kernel, by decide +kernel⟩
theorem ok_mhold (T : RunT K mg CR CW CT) (F : Fun K "make_hold" "Track.make_hold" sMHold f fd') : FnOk P w K mg base (CX1 P w) 1 f fd' ["self", "number"] (spHold k K CR CW CT) := by
  refine F.ok1 scMHold (fun vs H Q E h => ?_) (fun cdv A outer s H vs Q E hr h => ?_)
  · obtain ⟨H0, A, S, c, i, rfl, _⟩ := h
    rfl
  obtain ⟨H0, A', S, c, i, rfl, M, hl, q⟩ := h
  refine ⟨_, (pss_one (ps_expr (pe_bm PySem.F.plainAttrs_list PySem.F.slot_list_append PySem.F.type_list_append mt_append (pe_fld (pv 0) rfl) (pa_cons (pe_tup (pa_cons pe_str (pa_cons (pv 1) pa_nil))) pa_nil)))), ?_⟩
  obtain ⟨ts, m1, m2⟩ := M.mv
  refine ⟨_, rfl, _, _, _, _, _, rfl, M.tr, T.clT, T.nMoves, rfl, .inl ⟨rfl, _, SqL.of m1⟩, _, rfl, (by show 2 ≤ sizeLine; decide), fun t ht => ?_⟩
  have s1 := same_upd ht (.tup [V.str "hold", .int i])
  refine ⟨A'.mv, _, .ref t, rfl, rfl, s1 _ _ m1, ?_, q _ (M.say m1 m2 ht hl)⟩
  rw [List.length_map, m2.len]
  have := M.le
  exact line3 (Nat.le_trans this.2.2.1 this.1) this.2.1
noncomputable def spMove (k : Nat) (K : PySem.W.Frag) (C CR CW CT : Addr) : Sp := fun vs H Q E => ∃ H0 A S c m a i b, vs = [.ref A.t, .str m, .str a, .int i, .bl b] ∧ RunIn k K CR CW CT H0 H A S c ∧ c < S.cnt ∧ (a = "x" ∨ a = "y" ∨ a = "z") ∧
  match bnd (if b = true then (look S.pl a).getD 0 + i else i) with
  | .ok j => ∀ H', RunIn k K CR CW CT H0 H' A ((S.put a j).say [.str m, .str a, .int j]) (c + 1) → Q .non H'
  | .error d => XE K C H E d
theorem scMMove : FnScope ["self", "kind", "axis", "number", "by", "to"] ["self", "kind", "axis", "number", "by"] (defScope sMMove) := ⟨rfl, rfl, rfl, by decide +kernel, rfl, by decide +kernel, by decide +kernel⟩
theorem ok_mmove (T : RunT K mg CR CW CT) (FB : Fn P w K mg base "bounded" 3 ["number"] (spBounded K C)) (F : Fun K "make_move" "Track.make_move" sMMove f fd') : FnOk P w K mg base (CX1 P w) 4 f fd' ["self", "kind", "axis", "number", "by"] (spMove k K C CR CW CT) := by
  have nd := scMMove.nd
  refine F.ok1 scMMove (fun vs H Q E h => ?_) (fun cdv A outer s H vs Q E hr h => ?_)
  · obtain ⟨H0, A, S, c, m, a, i, b, rfl, _⟩ := h
    rfl
  obtain ⟨H0, A', S, c, m, a, i, b, rfl, M, hl, ha, q⟩ := h
  have hu := hu_of hr
  refine ⟨_, (pss_cons (ps_set (i := 5) nd rfl (Or.inl rfl) (pf_call FB hr rfl (pass1 (E := E)) (pa_cons (pe_ifExp (pt_truth (pv 4) (fun _ => rfl)) (pe_op op_add (pe_dget hu (pe_fld (pv 0) rfl) (pv 2) (fun _ _ => rfl)) (pv 3)) (pv 3)) pa_nil)))
    (pss_cons (ps_dput hu (pe_fld (pv 0) rfl) (pv 2) (pv 5) rfl)
    (pss_one (ps_expr (pe_bm PySem.F.plainAttrs_list PySem.F.slot_list_append PySem.F.type_list_append mt_append (pe_fld (pv 0) rfl) (pa_cons (pe_tup (pa_cons (pv 1) (pa_cons (pv 2) (pa_cons (pv 5) pa_nil)))) pa_nil)))))), ?_⟩
  have done : ∀ j, (∀ H', RunIn k K CR CW CT H0 H' A' ((S.put a j).say [.str m, .str a, .int j]) (c + 1) → Q .non H') → tSeq (sDPut (tFld K (tVar 0) "places") (tVar 2) (tVar 5)) (tDrop (tBM K "list" rAppend (tFld K (tVar 0) "moves") (tCons (tTup (tCons (tVar 1) (tCons (tVar 2) (tCons (tVar 5) tNil)))) tNil)))
      { nx := fun _ H' => Q .non H', rt := Q } [some (.ref A'.t), some (.str m), some (.str a), some (.int i), some (.bl b), some (.int j)] H := fun j q => by
    have plen := M.plk.len
    refine ⟨_, rfl, _, rfl, _, _, _, _, _, rfl, M.tr, T.clT, T.nPlaces, rfl, _, rfl, A'.pl, _, rfl, DPut.k (k := Sum.inr a) M.pl (by unfold envD; rw [List.length_map, plen]; decide), ?_⟩
    rw [putK_env]
    have M1 := M.putp (i := j) ha
    obtain ⟨ts, m1, m2⟩ := M1.mv
    refine ⟨_, rfl, _, _, _, _, _, rfl, M1.tr, T.clT, T.nMoves, rfl, .inl ⟨rfl, _, SqL.of m1⟩, _, rfl, _, rfl, _, rfl, (by show 3 ≤ sizeLine; decide), fun t ht => ?_⟩
    have s1 := same_upd ht (.tup [V.str m, .str a, .int j])
    refine ⟨A'.mv, _, .ref t, rfl, rfl, s1 _ _ m1, ?_, q _ (M1.say m1 m2 ht hl)⟩
    rw [List.length_map, m2.len]
    have := M1.le
    exact line3 (Nat.le_trans this.2.2.1 this.1) this.2.1
  refine ⟨_, rfl, b, rfl, ?_⟩
  cases b with
  | true =>
    refine iteT ?_
    obtain ⟨z, hz⟩ := M.plk.look ha
    rw [hz, if_pos rfl, Option.getD_some] at q
    refine ⟨_, rfl, _, _, _, _, _, rfl, M.tr, T.clT, T.nPlaces, rfl, _, rfl, A'.pl, .int z, rfl, ?_, _, rfl, z, i, rfl, rfl, z + i, rfl, ?_⟩
    · have g := DGet.k (k := Sum.inr a) M.pl
      rw [valV_env, hz] at g
      exact g
    · cases e : bnd (z + i) with
      | ok j => rw [e] at q; exact done j q
      | error d => rw [e] at q; exact q
  | false =>
    refine iteF ?_
    rw [if_neg Bool.false_ne_true] at q
    refine ⟨_, rfl, i, rfl, ?_⟩
    cases e : bnd i with
    | ok j => rw [e] at q; exact done j q
    | error d => rw [e] at q; exact q
end
end Car

set_option maxHeartbeats 1000000
namespace Car
open PySem L2
section
variable {k : Nat} {P : Program} {w : World} {K : PySem.W.Frag} {mg : Str → Option Value} {base : Heap} {C CR CW CT fI f : Addr} {fd fd' : FuncData}
theorem scTimes : FnScope ["self", "statement", "names", "walk"] ["self", "statement", "names"] (defScope sTimes) := ⟨rfl, rfl, rfl, by decide +kernel, rfl, by decide +kernel, by decide +kernel⟩
noncomputable def isTimes : Stm → Prop
  | .times _ _ _ => True
  | _ => False
theorem ok_times (T : RunT K mg CR CW CT) (MW : Mc P w K mg base "Walk" CW 1 ["self", "body", "names", "of_call"] (spWalk CW)) (FR : Fn P w K mg base "reckoned" (k + 5) ["told", "names"] (spReck K C k)) (F : Fun K "do_times" "Run.do_times" sTimes f fd') :
    FnOk P w K mg base (CX1 P w) (k + 6) f fd' ["self", "statement", "names"] (spStm k K C CR CW CT isTimes) := by
  have nd := scTimes.nd
  refine F.ok1 scTimes (fun vs H Q E h => ?_) (fun cdv A outer s H vs Q E hr h => ?_)
  · obtain ⟨H0, A, S, c, fr, d, v, st, rfl, _⟩ := h
    rfl
  obtain ⟨H0, A', S, c, fr, d, v, st, rfl, R, hc, hv, sok, hd, hk, q⟩ := h
  have hr2 : Room 2 _ := hr.mono (show 2 ≤ k + 5 by (first | lia | omega))
  refine ⟨_, (pss_cons (ps_set (i := 3) nd rfl (Or.inl rfl) (pf_make MW hr2 rfl (pass1 (E := E)) (pa_cons (pe_ix ix_tup (pv 1) pe_int (fun _ _ => rfl)) (pa_cons (pv 2) (pa_cons pe_bl pa_nil)))))
    (pss_cons (ps_fld (pv 3) (pe_ix ix_tup (pv 1) pe_int (fun _ _ => rfl)) rfl)
    (pss_cons (ps_fld (pv 3) (pf_call FR hr rfl pass1 (pa_cons (pe_ix ix_tup (pv 1) pe_int (fun _ _ => rfl)) (pa_cons (pv 2) pa_nil))) rfl)
    (pss_cons (ps_fld (pv 3) (pe_callB call_len_seq rfl T.len PySem.boot_len (pa_cons (pe_fld (pv 3) rfl) pa_nil)) rfl)
    (pss_one (ps_expr (pe_bm PySem.F.plainAttrs_list PySem.F.slot_list_append PySem.F.type_list_append mt_append (pe_fld (pv 0) rfl) (pa_cons (pv 3) pa_nil)))))))), ?_⟩
  cases st with
  | times n e b =>
    rw [Stm.ok] at sok
    obtain ⟨eok, edp, bok⟩ := sok
    obtain ⟨t, x, l, rfl, ht0, hx, hl⟩ := stTimes hv
    have ht := R.same.sqT ht0
    obtain ⟨g1, g2, g3⟩ := R.envAt hd
    rw [doS] at q
    refine ⟨_, rfl, _, _, _, _, rfl, rfl, ht, rfl, _, rfl, fun y dx hy hdx hne => ⟨y, dx, l, d, false, rfl, upd_same, rfl, ?_⟩⟩
    have s1 : Same H (upd (upd H dx (.own y)) y (.ins CW dx [])) := same_in (same_upd hdx _) hy
    have s2 : Same H (upd (upd (upd H dx (.own y)) y (.ins CW dx [])) y (.ins CW dx (fW l d false 0 "" 0 0))) := same_in s1 hy
    refine ⟨_, rfl, _, _, _, _, rfl, rfl, s2.sqT ht, rfl, _, rfl, y, CW, dx, _, rfl, upd_same, T.clW, T.nCounter, (by show 7 < 1000; decide), ?_⟩
    generalize hH3 : (upd (upd (upd (upd H dx (.own y)) y (.ins CW dx [])) y (.ins CW dx (fW l d false 0 "" 0 0))) y (.ins CW dx (putF "counter" (.str n) (fW l d false 0 "" 0 0)))) = H3
    have s3 : Same H H3 := by rw [← hH3]; exact same_in s2 hy
    have y3 : H3 y = some (.ins CW dx (fW l d false 0 n 0 0)) := by rw [← hH3]; exact upd_same
    refine ⟨_, rfl, _, _, _, _, rfl, rfl, s3.sqT ht, rfl, _, rfl, x, d, _, e, rfl, hx.same (R.same.trans s3), s3 _ _ g1, g2, eok, edp, ?_⟩
    cases e1 : reck (look (S.env fr)) e with
    | error d1 =>
      rw [e1] at q
      exact (Fin.xe R q).mono s3
    | ok i =>
      rw [e1] at q
      have ib := reck_small (fun x i h => look_small g2 h) e e1
      refine ⟨_, rfl, y, CW, dx, _, rfl, y3, T.clW, T.nTurns, (by show 7 < 1000; decide), ?_⟩
      have s4 : Same H (upd H3 y (.ins CW dx (putF "turns" (.int i) (fW l d false 0 n 0 0)))) := same_in s3 hy
      obtain ⟨l', xs, el, hsq0, hrs⟩ := Rp.lstO hl
      cases el
      have hsq := (R.same.trans s4).seq hsq0
      have xl : xs.length = b.length := by rw [hrs.length, dats_map, List.length_map]
      refine ⟨_, rfl, y, CW, dx, _, _, rfl, upd_same, T.clW, T.nBody, rfl, l, xs, rfl, .inl hsq, _, rfl, y, CW, dx, _, rfl, upd_same, T.clW, T.nAt, (by show 7 < 1000; decide), ?_⟩
      have s5 : Same H (upd (upd H3 y (.ins CW dx (putF "turns" (.int i) (fW l d false 0 n 0 0)))) y (.ins CW dx (putF "at" (.int (xs.length : Int)) (putF "turns" (.int i) (fW l d false 0 n 0 0))))) := same_in s4 hy
      refine ⟨_, rfl, _, _, _, _, _, rfl, s5 _ _ R.run, T.clR, T.nWalks, rfl, .inl ⟨rfl, _, SqL.of (s5 _ _ R.wk)⟩, _, rfl, A'.wk, _, .ref y, rfl, rfl, s5 _ _ R.wk, ?_, ?_⟩
      · rw [List.length_map, List.length_reverse, R.ws.len]
        have := R.le
        exact line3 (show S.stk.length ≤ S.cnt by (first | lia | omega)) this.2.1
      · refine q _ { A' with ws := y :: A'.ws } ?_ rfl
        have R2 := R.push (w := ⟨b, fr, false, b.length, n, 0, i⟩) (a := y) (b := l) (dx := dx) (d := d) s5 hy (by rw [upd_same, xl]; rfl) hd hl bok (Nat.le_refl _) (Int.le_refl _) ib.2 (by (first | lia | omega))
        rw [hc] at R2
        exact R2
  | _ => exact hk.elim

theorem scIf : FnScope ["self", "statement", "names", "first", "second", "holds"] ["self", "statement", "names"] (defScope sIf) := ⟨rfl, rfl, rfl, by decide +kernel, rfl, by decide +kernel, by decide +kernel⟩
noncomputable def isIf : Stm → Prop
  | .iff _ _ _ _ _ => True
  | _ => False
theorem decI (i j : Int) : decide (V.int i = V.int j) = decide (i = j) := by
  by_cases h : i = j
  · rw [decide_eq_true h, decide_eq_true (by rw [h])]
  · rw [decide_eq_false h, decide_eq_false (fun z => h (by injection z))]
theorem ok_if (T : RunT K mg CR CW CT) (MW : Mc P w K mg base "Walk" CW 1 ["self", "body", "names", "of_call"] (spWalk CW)) (FR : Fn P w K mg base "reckoned" (k + 5) ["told", "names"] (spReck K C k)) (F : Fun K "do_if" "Run.do_if" sIf f fd') :
    FnOk P w K mg base (CX1 P w) (k + 6) f fd' ["self", "statement", "names"] (spStm k K C CR CW CT isIf) := by
  have nd := scIf.nd
  refine F.ok1 scIf (fun vs H Q E h => ?_) (fun cdv A outer s H vs Q E hr h => ?_)
  · obtain ⟨H0, A, S, c, fr, d, v, st, rfl, _⟩ := h
    rfl
  obtain ⟨H0, A', S, c, fr, d, v, st, rfl, R, hc, hv, sok, hd, hk, q⟩ := h
  have hr2 : Room 2 _ := hr.mono (show 2 ≤ k + 5 by (first | lia | omega))
  refine ⟨_, (pss_cons (ps_set (i := 3) nd rfl (Or.inl rfl) (pf_call FR hr rfl pass1 (pa_cons (pe_ix ix_tup (pv 1) pe_int (fun _ _ => rfl)) (pa_cons (pv 2) pa_nil))))
    (pss_cons (ps_set (i := 4) nd rfl (Or.inl rfl) (pf_call FR hr rfl pass1 (pa_cons (pe_ix ix_tup (pv 1) pe_int (fun _ _ => rfl)) (pa_cons (pv 2) pa_nil))))
    (pss_cons (ps_set (i := 5) nd rfl (Or.inl rfl) (pe_ifExp (pt_cmpR op_eq (pe_ix ix_tup (pv 1) pe_int (fun _ _ => rfl)) pe_str (nomark _)) (pe_cmpR op_lt (pv 3) (pv 4) (nomark _)) (pe_cmpR op_eq (pv 3) (pv 4) (nomark _))))
    (pss_one (ps_expr (pe_bm PySem.F.plainAttrs_list PySem.F.slot_list_append PySem.F.type_list_append mt_append (pe_fld (pv 0) rfl) (pa_cons (pf_make MW hr2 rfl (pass1 (E := E)) (pa_cons (pe_ifExp (pt_truth (pv 5) (fun _ => rfl)) (pe_ix ix_tup (pv 1) pe_int (fun _ _ => rfl)) (pe_ix ix_tup (pv 1) pe_int (fun _ _ => rfl))) (pa_cons (pv 2) (pa_cons pe_bl pa_nil)))) pa_nil))))))), ?_⟩
  cases st with
  | iff sg e1 e2 b1 b2 =>
    rw [Stm.ok] at sok
    obtain ⟨eok1, edp1, eok2, edp2, bok1, bok2⟩ := sok
    obtain ⟨t, x1, x2, l1, l2, rfl, ht0, hx1, hx2, hl1, hl2⟩ := stIf hv
    have ht := R.same.sqT ht0
    obtain ⟨g1, g2, g3⟩ := R.envAt hd
    rw [doS] at q
    refine ⟨_, rfl, _, _, _, _, rfl, rfl, ht, rfl, _, rfl, x1, d, _, e1, rfl, hx1.same R.same, g1, g2, eok1, edp1, ?_⟩
    cases r1 : reck (look (S.env fr)) e1 with
    | error d1 =>
      rw [r1] at q
      exact Fin.xe R q
    | ok i =>
      rw [r1] at q
      refine ⟨_, rfl, _, _, _, _, rfl, rfl, ht, rfl, _, rfl, x2, d, _, e2, rfl, hx2.same R.same, g1, g2, eok2, edp2, ?_⟩
      cases r2 : reck (look (S.env fr)) e2 with
      | error d1 =>
        have q' : Fin k K C CR CW CT H0 A'.p Q E (match reck (look (S.env fr)) e2 with | .error d => .stop S d | .ok j => .ok (S.push ⟨if holdsE sg i j = true then b1 else b2, fr, false, 0, "", 0, 0⟩)) := q
        rw [r2] at q'
        exact Fin.xe R q'
      | ok j =>
        have q' : Fin k K C CR CW CT H0 A'.p Q E (match reck (look (S.env fr)) e2 with | .error d => .stop S d | .ok j => .ok (S.push ⟨if holdsE sg i j = true then b1 else b2, fr, false, 0, "", 0, 0⟩)) := q
        rw [r2] at q'
        have q2 : Fin k K C CR CW CT H0 A'.p Q E (.ok (S.push ⟨if holdsE sg i j = true then b1 else b2, fr, false, 0, "", 0, 0⟩)) := q'
        have fin : ∀ l b, Rp K H0 (.ref l) (.list (dats b)) → oks k b → Fin k K C CR CW CT H0 A'.p Q E (.ok (S.push ⟨b, fr, false, 0, "", 0, 0⟩)) →
            ∀ y dx, H y = none → H dx = none → dx ≠ y → spWalk CW (.ref y :: ([.ref l, .ref d, .bl false] ++ [])) (upd (upd H dx (.own y)) y (.ins CW dx [])) (fun v H2 => v = .non ∧ rAppend (.ref A'.wk) [.ref y] H2 fun _ H1 => Q .non H1) E := fun l b hl bok q y dx hy hdx hne => by
          have s2 : Same H (upd (upd (upd H dx (.own y)) y (.ins CW dx [])) y (.ins CW dx (fW l d false 0 "" 0 0))) := same_in (same_in (same_upd hdx _) hy) hy
          refine ⟨y, dx, l, d, false, rfl, upd_same, rfl, A'.wk, _, .ref y, rfl, rfl, s2 _ _ R.wk, ?_, ?_⟩
          · rw [List.length_map, List.length_reverse, R.ws.len]
            have := R.le
            exact line3 (show S.stk.length ≤ S.cnt by (first | lia | omega)) this.2.1
          · refine q _ { A' with ws := y :: A'.ws } ?_ rfl
            have R2 := R.push (w := ⟨b, fr, false, 0, "", 0, 0⟩) (a := y) (b := l) (dx := dx) (d := d) s2 hy upd_same hd hl bok (Nat.zero_le _) (Int.le_refl _) (show (0 : Int) ≤ 1000000 by decide) (by (first | lia | omega))
            rw [hc] at R2
            exact R2
        have tail : ∀ h : Bool, Fin k K C CR CW CT H0 A'.p Q E (.ok (S.push ⟨if h = true then b1 else b2, fr, false, 0, "", 0, 0⟩)) → tDrop (tBM K "list" rAppend (tFld K (tVar 0) "walks") (tCons (tMake CW (spWalk CW) [] E (tCons (tIf (fun σ H Q => tVar 5 σ H fun x H' => ∃ k, TruV K x H' k ∧ Q k H') (tOp (rIxT K) (tVar 1) (tC (.int 4))) (tOp (rIxT K) (tVar 1) (tC (.int 5)))) (tCons (tVar 2) (tCons (tC (.bl false)) tNil)))) tNil))
            { nx := fun _ H' => Q .non H', rt := Q } [some (.ref A'.p), some (.ref t), some (.ref d), some (.int i), some (.int j), some (.bl h)] H := fun h q => by
          refine ⟨_, rfl, _, _, _, _, _, rfl, R.run, T.clR, T.nWalks, rfl, .inl ⟨rfl, _, SqL.of R.wk⟩, _, rfl, h, rfl, ?_⟩
          cases h with
          | true => exact iteT ⟨_, rfl, _, _, _, _, rfl, rfl, ht, rfl, _, rfl, fin l1 b1 hl1 bok1 q⟩
          | false => exact iteF ⟨_, rfl, _, _, _, _, rfl, rfl, ht, rfl, _, rfl, fin l2 b2 hl2 bok2 q⟩
        refine ⟨_, rfl, _, _, _, _, rfl, rfl, ht, rfl, rfl, _, rfl, ?_⟩
        refine ite2 (fun c1 => ?_) (fun c1 => ?_)
        · have c2 : V.str sg = V.str "<" := of_decide_eq_true c1
          have c3 : sg = "<" := by injection c2
          refine ⟨_, rfl, _, rfl, _, _, rfl, rfl, ?_⟩
          refine tail (decide (i < j)) ?_
          rw [show holdsE sg i j = decide (i < j) from if_pos c3] at q2
          exact q2
        · have c2 : ¬ V.str sg = V.str "<" := of_decide_eq_false (Bool.eq_false_iff.mpr c1)
          have c3 : ¬ sg = "<" := fun z => c2 (by rw [z])
          refine ⟨_, rfl, _, rfl, rfl, ?_⟩
          rw [decI]
          refine tail (decide (i = j)) ?_
          rw [show holdsE sg i j = decide (i = j) from if_neg c3] at q2
          exact q2
  | _ => exact hk.elim
end
end Car

set_option maxHeartbeats 1000000
namespace L2
open PySem PySem.Spec PyProof.Rows
section
variable {X : Cx} {K : PySem.W.Frag} {a : Expr} {ta : TE}
theorem blk0 {scope : Scope} {own : List Str} (kind : scope.kind = .function) (h : (scope.names.all fun y => decide (y.2 ≠ .cell) && (decide (y.2 ≠ .free) && decide (y.2 = .local → scope.names.lookup y.1 = some .local))) = true) : BlkScope X scope own [] [] := by
  have g : ∀ y ∈ scope.names, y.2 ≠ .cell ∧ y.2 ≠ .free ∧ (y.2 = .local → scope.names.lookup y.1 = some .local) := fun y hy => by
    have := List.all_eq_true.mp h y hy
    rw [Bool.and_eq_true, Bool.and_eq_true] at this
    exact ⟨of_decide_eq_true this.1, of_decide_eq_true this.2.1, of_decide_eq_true this.2.2⟩
  exact ⟨kind, fun y hy => (g y hy).1, fun y hy => (g y hy).2.2, fun y hy e => absurd e (g y hy).2.1, rfl, fun y hy => by simp at hy⟩
theorem nd1 (x : Str) : [x].Nodup := by simp
theorem ix_tupK (h : X.K = K) : IxR X (rIxT K) := by subst h; exact ix_tup
theorem ix_listK (h : X.K = K) : IxR X (rIxL K) := by subst h; exact ix_list
theorem pe_fldK {f : Str} {pos : Pos} (h : X.K = K) (he : PE X a ta) (hb : attributeBase a f X.env (eval a X.env) = eval a X.env) : PE X (.Attribute a f pos) (tFld K ta f) := by subst h; exact pe_fld he hb
theorem pt_truthK (h : X.K = K) (ha : PE X a ta) (he : ∀ whole, isTrue a X.env whole = (do let v ← whole; standAt a.pos; holding [v] (truthy v))) : PT X a (fun σ H Q => ta σ H fun x H' => ∃ k, TruV K x H' k ∧ Q k H') := by subst h; exact pt_truth ha he
end
theorem pf_make0 {X : Cx} {k : Nat} {C : Addr} {ps : List Str} {sp : Sp} {E : XK} {x : Str} {p pos : Pos} (F : Mc X.prog X.w X.K X.mg X.base x C k ps sp) (hr : Room (k + 1) X.A) (hg : Gl X x) (hx : Passes (CX1 X.prog X.w) X E) (hdb : (x == ("__debug__" : Str)) = false := by decide) :
    PE X (.Call (.Name x p) [] [] pos) (tMake C sp [] E tNil) := by
  obtain ⟨f, fd, ok, mk, mgx, bi⟩ := F.ex
  exact pe_make0 mk ok hr hg mgx bi .nil hx hdb
end L2
namespace Car
open PySem L2
noncomputable def Wd (n : Nat) (Pv : Nat → St → List V → Hp → Prop) (i m : Nat) (σ : St) (acc : List V) (H : Hp) : Prop := m = n - i ∧ i ≤ n ∧ Pv i σ acc H
theorem wd_next {n : Nat} {Pv : Nat → St → List V → Hp → Prop} {i : Nat} {σ : St} {acc : List V} {H : Hp} (h : i < n) (p : Pv (i + 1) σ acc H) : ∃ m', m' < n - i ∧ Wd n Pv (i + 1) m' σ acc H := ⟨n - (i + 1), by (first | lia | omega), rfl, h, p⟩
theorem lc_ask {K : PySem.W.Frag} {a : Addr} {xs : List V} {i : Nat} {H : Hp} {A : Prop} {B : V → Hp → Prop} (q : SqL K H a xs) (hi : i ≤ xs.length) (hs : ∀ x, xs[i]? = some x → i < xs.length → B x H) (hd : i = xs.length → A) :
    ((Itl K a).stop i H ∧ A) ∨ ((Itl K a).go i H ∧ ∀ x H', (Itl K a).yld i H x H' → B x H') := by
  by_cases hlt : i < xs.length
  · refine .inr ⟨⟨xs, xs[i], q, by simp [hlt]⟩, fun x H' y => ?_⟩
    obtain ⟨e, y⟩ := y
    subst e
    exact hs x (y xs q) hlt
  · exact .inl ⟨⟨xs, q, by (first | lia | omega)⟩, hd (by (first | lia | omega))⟩
theorem wd_0 {n : Nat} {Pv : Nat → St → List V → Hp → Prop} {σ : St} {acc : List V} {H : Hp} (h : Pv 0 σ acc H) : ∃ m, Wd n Pv 0 m σ acc H := ⟨n, by simp, Nat.zero_le _, h⟩
theorem blkC {X : Cx} {scope : Scope} {own capn : List Str} {capI : List Nat} (sc : Scope) (hsc : X.env.scope = sc) (kind : scope.kind = .function) (h : (scope.names.all fun y => decide (y.2 ≠ .cell) && (decide (y.2 = .local → scope.names.lookup y.1 = some .local) && decide (y.2 = .free → sc.names.lookup y.1 = some .cell))) = true) (caps : capI.map (fun i => X.N[i]?) = capn.map some)
    (capc : ∀ y ∈ capn, X.env.scope.names.lookup y = some .cell ∧ (relabel scope X.env).names.lookup y = some .cell) : BlkScope X scope own capn capI := by
  have g : ∀ y ∈ scope.names, y.2 ≠ .cell ∧ (y.2 = .local → scope.names.lookup y.1 = some .local) ∧ (y.2 = .free → sc.names.lookup y.1 = some .cell) := fun y hy => by
    have := List.all_eq_true.mp h y hy
    rw [Bool.and_eq_true, Bool.and_eq_true] at this
    exact ⟨of_decide_eq_true this.1, of_decide_eq_true this.2.1, of_decide_eq_true this.2.2⟩
  exact ⟨kind, fun y hy => (g y hy).1, fun y hy => (g y hy).2.1, fun y hy e => by rw [hsc]; exact (g y hy).2.2 e, caps, capc⟩
section
variable {K : PySem.W.Frag} {H : Hp} {v : V}
theorem stCall {x : Str} {es : List Ex} (h : Rp K H v (Stm.call x es).dat) : ∃ a l xs, v = .ref a ∧ SqT K H a [.str "call", .str x, .ref l] ∧ SqL K H l xs ∧ Rps K H xs (es.map Ex.dat) := by
  rw [Stm.dat] at h
  obtain ⟨a, xs, rfl, h1, r⟩ := Rp.tupO h
  obtain ⟨x, xs, rfl, hx, r⟩ := r.consO
  obtain ⟨y, xs, rfl, hy, r⟩ := r.consO
  obtain ⟨z, xs, rfl, hz, r⟩ := r.consO
  cases r.nilO
  cases hx.strO
  cases hy.strO
  obtain ⟨l, ys, rfl, h2, r2⟩ := Rp.lstO hz
  exact ⟨a, l, ys, rfl, h1, h2, r2⟩
end
section
variable {k : Nat} {K : PySem.W.Frag} {CW : Addr} {H0 H : Hp} {ds : List Addr}
theorem WksAt.get : ∀ {as : List Addr} {ws : List Wk} {j : Nat} {a : Addr}, WksAt k K CW H0 H ds as ws → as[j]? = some a → ∃ w, ws[j]? = some w ∧ WkAt k K CW H0 H ds a w
  | [], _, _, _, _, e => by simp at e
  | _ :: _, w :: _, 0, _, h, e => by
    cases e
    exact ⟨w, rfl, h.1⟩
  | _ :: _, _ :: _, j + 1, _, h, e => WksAt.get (j := j) h.2 (by simpa using e)
  | _ :: _, [], _, _, h, _ => h.elim
theorem WksAt.rev {as : List Addr} {ws : List Wk} {i : Nat} {a : Addr} (h : WksAt k K CW H0 H ds as ws) (e : as.reverse[i]? = some a) : ∃ w, ws.reverse[i]? = some w ∧ WkAt k K CW H0 H ds a w := by
  have hi : i < as.length := by have := (List.getElem?_eq_some_iff.mp e).1; rw [List.length_reverse] at this; exact this
  have hl := h.len
  rw [List.getElem?_reverse hi] at e
  obtain ⟨w, e1, e2⟩ := h.get e
  exact ⟨w, by rw [List.getElem?_reverse (by (first | lia | omega)), ← hl]; exact e1, e2⟩
end
section
variable {k : Nat} {P : Program} {w : World} {K : PySem.W.Frag} {mg : Str → Option Value} {base : Heap} {C CR CW CT fI f : Addr} {fd fd' : FuncData}
theorem passN {X : Cx} : Passes (CX1 P w) X E0 := fun _ _ _ _ _ _ _ h => by
  obtain ⟨_, _, _, _, _, _, _, _, _, _, _, _, _, _, _, ff⟩ := h
  exact ff.elim
theorem recks_get {env : Str → Option Int} : ∀ {es : List Ex} {ns : List Int} {i : Nat} {e : Ex}, recks env es = .ok ns → es[i]? = some e → ∃ n, ns[i]? = some n ∧ reck env e = .ok n
  | [], _, _, _, _, e => by simp at e
  | e0 :: r, ns, i, e, h, g => by
    rw [recks] at h
    cases h1 : reck env e0 with
    | error d => rw [h1] at h; cases h
    | ok n =>
      rw [h1] at h
      cases h2 : recks env r with
      | error d => rw [h2] at h; cases h
      | ok ms =>
        rw [h2] at h
        cases h
        cases i with
        | zero => cases g; exact ⟨n, rfl, h1⟩
        | succ i => exact recks_get (i := i) h2 (by simpa using g)
theorem recks_len {env : Str → Option Int} : ∀ {es : List Ex} {ns : List Int}, recks env es = .ok ns → ns.length = es.length
  | [], _, h => by rw [recks] at h; cases h; rfl
  | e0 :: r, ns, h => by
    rw [recks] at h
    cases h1 : reck env e0 with
    | error d => rw [h1] at h; cases h
    | ok n =>
      rw [h1] at h
      cases h2 : recks env r with
      | error d => rw [h2] at h; cases h
      | ok ms =>
        rw [h2] at h
        cases h
        rw [List.length_cons, List.length_cons, recks_len h2]
theorem recks_small {env : Str → Option Int} (he : ∀ x i, env x = some i → -1000000 ≤ i ∧ i ≤ 1000000) : ∀ {es : List Ex} {ns : List Int}, recks env es = .ok ns → ∀ n ∈ ns, -1000000 ≤ n ∧ n ≤ 1000000
  | [], _, h => by rw [recks] at h; cases h; intro n hn; cases hn
  | e0 :: r, ns, h => by
    rw [recks] at h
    cases h1 : reck env e0 with
    | error d => rw [h1] at h; cases h
    | ok n =>
      rw [h1] at h
      cases h2 : recks env r with
      | error d => rw [h2] at h; cases h
      | ok ms =>
        rw [h2] at h
        cases h
        intro m hm
        rcases List.mem_cons.mp hm with rfl | hm
        · exact reck_small he e0 h1
        · exact recks_small he h2 m hm
theorem recks_at {env : Str → Option Int} : ∀ {es : List Ex} {i : Nat} {e : Ex} {d : PyData}, (∀ j f, j < i → es[j]? = some f → ∃ n, reck env f = .ok n) → es[i]? = some e → reck env e = .error d → recks env es = .error d
  | [], _, _, _, _, h, _ => by simp at h
  | e0 :: r, 0, e, d, _, h, g => by
    cases h
    rw [recks, g]
  | e0 :: r, i + 1, e, d, p, h, g => by
    obtain ⟨n, hn⟩ := p 0 e0 (Nat.succ_pos _) rfl
    rw [recks, hn, recks_at (i := i) (fun j f hj hf => p (j + 1) f (Nat.succ_lt_succ hj) (by simpa using hf)) (by simpa using h) g]
theorem recks_all {env : Str → Option Int} : ∀ {es : List Ex}, (∀ (j : Nat) f, es[j]? = some f → ∃ n, reck env f = .ok n) → ∃ ns, recks env es = .ok ns
  | [], _ => ⟨[], rfl⟩
  | e0 :: r, p => by
    obtain ⟨n, hn⟩ := p 0 e0 rfl
    obtain ⟨ns, hns⟩ := recks_all (es := r) fun j f hf => p (j + 1) f (by simpa using hf)
    exact ⟨n :: ns, by rw [recks, hn, hns]⟩
theorem putAll_small : ∀ {ps : List (Str × Int)} {n : Nm}, Small n → (∀ p ∈ ps, -1000000 ≤ p.2 ∧ p.2 ≤ 1000000) → Small (putAll n ps) ∧ (putAll n ps).length ≤ n.length + ps.length
  | [], n, h, _ => ⟨h, Nat.le_refl _⟩
  | p :: r, n, h, g => by
    rw [putAll]
    obtain ⟨a, b⟩ := putAll_small (ps := r) (put_small h (x := p.1) (g p List.mem_cons_self)) fun q hq => g q (List.mem_cons_of_mem _ hq)
    have := len_put n p.1 p.2
    exact ⟨a, by rw [List.length_cons]; (first | lia | omega)⟩
theorem putAll_env : ∀ {xs : List Str} {ns : List Int} {n : Nm}, putAllK (envD n) ((xs.map (Sum.inr : Str → Key)).zip (ns.map V.int)) = envD (putAll n (xs.zip ns))
  | [], ns, n => by rw [List.map_nil, List.zip_nil_left, List.zip_nil_left, putAllK, putAll]
  | x :: xs, [], n => by rw [List.map_nil, List.zip_nil_right, List.zip_nil_right, putAllK, putAll]
  | x :: xs, i :: ns, n => by
    rw [List.map_cons, List.map_cons, List.zip_cons_cons, List.zip_cons_cons, putAllK, putAll]
    show putAllK (putK (envD n) (Sum.inr x) (V.int i)) _ = _
    rw [putK_env, putAll_env]
theorem scCall : FnScope ["self", "statement", "names", "sub", "numbers"] ["self", "statement", "names"] (defScope sCall) := ⟨rfl, rfl, rfl, by decide +kernel, rfl, by decide +kernel, by decide +kernel⟩
theorem ndtn : (["told", "names"] : List Str).Nodup := by decide +kernel
noncomputable def isCall : Stm → Prop
  | .call _ _ => True
  | _ => False
theorem ok_call (T : RunT K mg CR CW CT) (hz : mg "zip" = none) (FDp : Fn P w K mg base "look_at_depth" 3 ["calls_before"] (spDepth K C)) (MW : Mc P w K mg base "Walk" CW 1 ["self", "body", "names", "of_call"] (spWalk CW)) (FR : Fn P w K mg base "reckoned" (k + 5) ["told", "names"] (spReck K C k)) (F : Fun K "do_call" "Run.do_call" sCall f fd') :
    FnOk P w K mg base (CX1 P w) (k + 6) f fd' ["self", "statement", "names"] (spStm k K C CR CW CT isCall) := by
  have nd := scCall.nd
  refine F.ok1 scCall (fun vs H Q E h => ?_) (fun cdv A outer s H vs Q E hr h => ?_)
  · obtain ⟨H0, A, S, c, fr, d, v, st, rfl, _⟩ := h
    rfl
  obtain ⟨H0, A', S, c, fr, d, v, st, rfl, R, hc, hv, sok, hd, hk, q⟩ := h
  have hu := hu_of hr
  have hr2 : Room 2 _ := hr.mono (show 2 ≤ k + 5 by (first | lia | omega))
  have hr3 : Room 3 _ := hr.mono (show 3 ≤ k + 5 by (first | lia | omega))
  refine ⟨_, (pss_cons (ps_expr (pf_call FDp hr3 rfl (pass1 (E := E)) (pa_cons (pe_callB call_len_seq rfl T.len PySem.boot_len (pa_cons (pe_lc (own := ["walk"]) (capn := []) (capI := []) rfl (blk0 rfl (by decide +kernel)) (pi_list (pe_fld (pv 0) rfl)) (fun _ _ _ _ _ _ => pg_name (i := 0) (nd1 "walk") rfl (Or.inl rfl)) (fun _ _ _ _ _ _ => (pifs_one (pt_truthK (K := K) rfl (pe_fldK (K := K) rfl (pv 0) rfl) (fun _ => rfl)))) (fun _ _ _ _ _ _ => (pv 0))) pa_nil)) pa_nil)))
    (pss_cons (ps_set (i := 3) nd rfl (Or.inl rfl) (pe_dget hu (pe_fld (pv 0) rfl) (pe_ix ix_tup (pv 1) pe_int (fun _ _ => rfl)) (fun _ _ => rfl)))
    (pss_cons (ps_setCX (handsOn1 (E := E)) (i := 4) (own := ["told"]) (capn := ["names"]) (capI := [2]) nd rfl (Or.inl rfl) rfl rfl (blkC (defScope sCall) rfl rfl (by decide +kernel) rfl (fun y hy => by rcases List.mem_cons.mp hy with rfl | hy; exact ⟨rfl, rfl⟩; cases hy)) (pi_list (pe_ix ix_tup (pv 1) pe_int (fun _ _ => rfl))) (fun _ _ _ _ _ _ => pg_name (i := 0) ndtn rfl (Or.inl rfl)) (fun _ _ _ _ _ _ => pifs_nil) (fun _ _ _ _ _ _ => (pf_call FR hr rfl passR (pa_cons (pv 0) (pa_cons (pv 1) pa_nil)))))
    (pss_one (ps_expr (pe_bm PySem.F.plainAttrs_list PySem.F.slot_list_append PySem.F.type_list_append mt_append (pe_fld (pv 0) rfl) (pa_cons (pf_make MW hr2 rfl (pass1 (E := E)) (pa_cons (pe_ix ix_tup (pv 3) pe_int (fun _ _ => rfl)) (pa_cons (pe_dictzip rfl rfl T.dict rfl hz (pa_cons (pe_ix ix_tup (pv 3) pe_int (fun _ _ => rfl)) (pa_cons (pv 4) pa_nil))) (pa_cons pe_bl pa_nil)))) pa_nil))))))), ?_⟩
  cases st with
  | call x es =>
    rw [Stm.ok] at sok
    obtain ⟨el, eok⟩ := sok
    obtain ⟨t, l, xs, rfl, ht0, hl0, hxs⟩ := stCall hv
    obtain ⟨g1, g2, g3⟩ := R.envAt hd
    obtain ⟨kvs, hsb, sf⟩ := R.sb
    have wl := R.ws.len
    have hle := R.le
    -- how deep
    refine ⟨_, rfl, _, _, _, _, _, rfl, R.run, T.clR, T.nWalks, rfl, A'.wk, rfl, ⟨_, SqL.of R.wk⟩, fun D hD => ?_⟩
    refine ⟨Wd A'.ws.length (fun i σ2 acc H1 => ∃ z : Option V, σ2 = [z] ∧ acc.length = ((S.stk.reverse.take i).filter (·.oc)).length ∧ Same H H1 ∧ H1 D = some (.lst acc)), wd_0 ⟨none, rfl, rfl, same_upd hD _, upd_same⟩, ?_⟩
    rintro i m σ2 acc H1 ⟨rfl, hi0, z, rfl, al, s1, hD1⟩
    refine lc_ask (K := K) (xs := A'.ws.reverse.map V.ref) (SqL.of (s1 _ _ R.wk)) (by rw [List.length_map, List.length_reverse]; exact hi0) (fun y hy hi => ?_) (fun hend => ?_)
    · rw [List.length_map, List.length_reverse] at hi
      rw [List.getElem?_map] at hy
      cases ea : A'.ws.reverse[i]? with
      | none => rw [ea] at hy; cases hy
      | some a =>
        rw [ea] at hy
        cases hy
        obtain ⟨w', ew, b, dx, d', hw, _⟩ := R.ws.rev ea
        have etk : (S.stk.reverse.take (i + 1)).filter (·.oc) = (S.stk.reverse.take i).filter (·.oc) ++ [w'].filter (·.oc) := by
          rw [List.take_add_one, ew, List.filter_append]
          rfl
        refine ⟨_, rfl, _, _, _, _, _, rfl, s1 _ _ hw, T.clW, T.nOf, rfl, w'.oc, rfl, ?_⟩
        cases eo : w'.oc with
        | true =>
          refine iteT ⟨_, rfl, hD1, ?_, wd_next hi ⟨_, rfl, ?_, same_in s1 hD, upd_same⟩⟩
          · rw [al]
            refine line3 (Nat.le_trans (List.length_filter_le _ _) (Nat.le_trans (List.length_take_le _ _) (show i ≤ 2000 by (first | lia | omega)))) (Nat.le_refl _)
          · rw [etk, List.length_append, List.length_append, al, List.filter_cons_of_pos eo]
            rfl
        | false =>
          refine iteF (wd_next hi ⟨_, rfl, ?_, s1, hD1⟩)
          rw [etk, List.length_append, al, List.filter_cons_of_neg (by rw [eo]; decide)]
          rfl
    have cnt : acc.length = (S.stk.filter (·.oc)).length := by
      rw [List.length_map, List.length_reverse] at hend
      rw [al, hend, wl, ← List.length_reverse (as := S.stk), List.take_length, List.filter_reverse, List.length_reverse]
    refine ⟨D, acc, rfl, .inl (SqL.of hD1), (acc.length : Int), rfl, ?_⟩
    rw [doS] at q
    unfold callS at q
    by_cases deep : 10 ≤ (S.stk.filter (·.oc)).length
    · rw [if_pos deep] at q
      rw [if_pos (show (10 : Int) ≤ (acc.length : Int) by (first | lia | omega))]
      exact (Fin.xe R q).mono s1
    rw [if_neg deep] at q
    rw [if_neg (show ¬ (10 : Int) ≤ (acc.length : Int) by (first | lia | omega))]
    cases h1 : subOf x S.subs with
    | none => rw [h1] at q; exact (show False from q).elim
    | some sb =>
    cases h2 : recks (look (S.env fr)) es with
    | error dd =>
      rw [h1, h2] at q
      obtain ⟨fa, fn, fb, hkv, hfa, hfn, hfb, okb⟩ := sf x sb h1
      have xl := hxs.length
      rw [List.length_map] at xl
      have R1 := R.same' s1
      have ht := R1.same.sqT ht0
      refine ⟨_, rfl, _, _, _, _, _, rfl, R1.run, T.clR, T.nSubs, rfl, _, rfl, _, _, _, _, rfl, rfl, ht, rfl, A'.sb, .ref fa, rfl, (by have := DGet.k (k := Sum.inr x) (s1 _ _ hsb); rw [hkv] at this; exact this), ?_⟩
      refine ⟨_, rfl, _, _, _, _, rfl, rfl, ht, rfl, l, rfl, ⟨_, R1.same.seq hl0⟩, fun D2 hD2 => ?_⟩
      refine ⟨Wd xs.length (fun i σ2 acc H2 => ∃ z : Option V, σ2 = [z, some (.ref d)] ∧ acc.length = i ∧ Same H1 H2 ∧ H2 D2 = some (.lst acc) ∧ ∀ j f, j < i → es[j]? = some f → ∃ n, reck (look (S.env fr)) f = .ok n), wd_0 ⟨none, rfl, rfl, same_upd hD2 _, upd_same, fun j f hj => absurd hj (Nat.not_lt_zero _)⟩, ?_⟩
      rintro j m2 σ2 acc2 H2 ⟨rfl, hj0, z2, rfl, al2, s2, hD3, pre⟩
      refine lc_ask (K := K) (xs := xs) ((R1.same.trans s2).seq hl0) hj0 (fun y hy hj => ?_) (fun hend2 => ?_)
      · have hje : j < es.length := by (first | lia | omega)
        have ee : es[j]? = some es[j] := List.getElem?_eq_getElem hje
        obtain ⟨y', hy', ry⟩ := hxs.get (i := j) (x := es[j].dat) (by rw [List.getElem?_map, ee]; rfl)
        rw [hy] at hy'
        cases hy'
        have eo := eok es[j] (List.getElem_mem hje)
        refine ⟨_, rfl, _, rfl, y, d, S.env fr, es[j], rfl, ry.same (R1.same.trans s2), (s1.trans s2) _ _ g1, g2, eo.1, eo.2, ?_⟩
        cases rk : reck (look (S.env fr)) es[j] with
        | ok n =>
          refine ⟨hD3, ?_, wd_next hj ⟨_, rfl, by rw [List.length_append, al2]; rfl, same_in s2 hD2, upd_same, fun j' f hj' hf => ?_⟩⟩
          · rw [al2]
            exact line3 (show j ≤ 10 by (first | lia | omega)) (by decide)
          · by_cases hjj : j' = j
            · subst hjj
              rw [ee] at hf
              cases hf
              exact ⟨n, rk⟩
            · exact pre j' f (by (first | lia | omega)) hf
        | error d' =>
          have e1 := recks_at pre ee rk
          rw [h2] at e1
          cases e1
          exact (Fin.xe R q).mono (s1.trans s2)
      · obtain ⟨ns, hns⟩ := recks_all (env := look (S.env fr)) (es := es) fun j' f hf => pre j' f (by have := (List.getElem?_eq_some_iff.mp hf).1; (first | lia | omega)) hf
        rw [h2] at hns
        cases hns
    | ok ns =>
    rw [h1, h2] at q
    obtain ⟨fa, fn, fb, hkv, hfa, hfn, hfb, okb⟩ := sf x sb h1
    have nl := recks_len h2
    have xl := hxs.length
    rw [List.length_map] at xl
    have R1 := R.same' s1
    have ht := R1.same.sqT ht0
    -- sub
    refine ⟨_, rfl, _, _, _, _, _, rfl, R1.run, T.clR, T.nSubs, rfl, _, rfl, _, _, _, _, rfl, rfl, ht, rfl, A'.sb, .ref fa, rfl, (by have := DGet.k (k := Sum.inr x) (s1 _ _ hsb); rw [hkv] at this; exact this), ?_⟩
    -- numbers
    refine ⟨_, rfl, _, _, _, _, rfl, rfl, ht, rfl, l, rfl, ⟨_, R1.same.seq hl0⟩, fun D2 hD2 => ?_⟩
    refine ⟨Wd xs.length (fun i σ2 acc H2 => ∃ z : Option V, σ2 = [z, some (.ref d)] ∧ acc = (ns.take i).map V.int ∧ Same H1 H2 ∧ H2 D2 = some (.lst acc)), wd_0 ⟨none, rfl, rfl, same_upd hD2 _, upd_same⟩, ?_⟩
    rintro j m2 σ2 acc2 H2 ⟨rfl, hj0, z2, rfl, rfl, s2, hD3⟩
    refine lc_ask (K := K) (xs := xs) ((R1.same.trans s2).seq hl0) hj0 (fun y hy hj => ?_) (fun hend2 => ?_)
    · have hje : j < es.length := by (first | lia | omega)
      have ee : es[j]? = some es[j] := List.getElem?_eq_getElem hje
      obtain ⟨y', hy', ry⟩ := hxs.get (i := j) (x := es[j].dat) (by rw [List.getElem?_map, ee]; rfl)
      rw [hy] at hy'
      cases hy'
      obtain ⟨n, hn, rk⟩ := recks_get h2 ee
      have eo := eok es[j] (List.getElem_mem hje)
      refine ⟨_, rfl, _, rfl, y, d, S.env fr, es[j], rfl, ry.same (R1.same.trans s2), (s1.trans s2) _ _ g1, g2, eo.1, eo.2, ?_⟩
      rw [rk]
      refine ⟨hD3, ?_, wd_next hj ⟨_, rfl, by rw [List.take_add_one, hn, List.map_append]; rfl, same_in s2 hD2, upd_same⟩⟩
      rw [List.length_map]
      exact line3 (Nat.le_trans (List.length_take_le _ _) (show j ≤ 10 by (first | lia | omega))) (by decide)
    have en : ns.take j = ns := List.take_of_length_le (by (first | lia | omega))
    rw [en] at hD3
    have s12 := s1.trans s2
    have R2 := R.same' s12
    have hfa2 := R2.same.sqT hfa
    have hfn2 : SqL K H2 fn ((sb.names.map (Sum.inr : Str → Key)).map kV) := by
      rw [List.map_map]
      exact R2.same.seq hfn
    refine ⟨_, rfl, _, _, _, _, _, rfl, R2.run, T.clR, T.nWalks, rfl, .inl ⟨rfl, _, SqL.of R2.wk⟩, _, rfl, _, _, _, _, rfl, rfl, hfa2, rfl, _, rfl, _, _, _, _, rfl, rfl, hfa2, rfl, _, rfl, fn, D2, sb.names.map Sum.inr, ns.map V.int, rfl, hfn2, SqL.of hD3, fun dn hdn => ?_⟩
    rw [show putAllK [] ((sb.names.map (Sum.inr : Str → Key)).zip (ns.map V.int)) = envD (putAll [] (sb.names.zip ns)) from putAll_env (n := [])] at *
    have s3 := same_upd hdn (.dK (envD (putAll [] (sb.names.zip ns))))
    refine fun y dx hy hdx hne => ⟨y, dx, fb, dn, true, rfl, upd_same, rfl, ?_⟩
    have s4 : Same (upd H2 dn (.dK (envD (putAll [] (sb.names.zip ns))))) (upd (upd (upd (upd H2 dn (.dK (envD (putAll [] (sb.names.zip ns))))) dx (.own y)) y (.ins CW dx [])) y (.ins CW dx (fW fb dn true 0 "" 0 0))) := same_in (same_in (same_upd hdx _) hy) hy
    have s24 := s3.trans s4
    have hdn4 := s4 _ _ (upd_same (H := H2) (a := dn) (o := .dK (envD (putAll [] (sb.names.zip ns)))))
    refine ⟨A'.wk, _, .ref y, rfl, rfl, s24 _ _ R2.wk, ?_, ?_⟩
    · rw [List.length_map, List.length_reverse, wl]
      exact line3 (show S.stk.length ≤ S.cnt by (first | lia | omega)) hle.2.1
    · refine q _ { A' with ws := y :: A'.ws, ds := A'.ds ++ [dn] } ?_ rfl
      have sm := putAll_small (n := []) (ps := sb.names.zip ns) (fun p hp => by cases hp) fun p hp => recks_small (fun x i h => look_small g2 h) h2 p.2 (List.of_mem_zip hp).2
      have R3 := R2.call (a := y) (b := fb) (dx := dx) (D := dn) (nm := putAll [] (sb.names.zip ns)) (bd := sb.body) s24 (s3.free hy) hdn upd_same hdn4 ⟨sm.1, Nat.le_trans sm.2 (by rw [List.length_zip]; show 0 + _ ≤ 10; (first | lia | omega))⟩ hfb okb (by (first | lia | omega))
      rw [hc] at R3
      exact R3
  | _ => exact hk.elim
end
end Car

set_option maxHeartbeats 1000000
namespace Car
open PySem L2
section
variable {k : Nat} {P : Program} {w : World} {K : PySem.W.Frag} {mg : Str → Option Value} {base : Heap} {C CR CW CT fI f : Addr} {fd fd' : FuncData}
noncomputable def spTurn (k : Nat) (K : PySem.W.Frag) (C CR CW CT : Addr) : Sp := fun vs H Q E => ∃ H0 A S a as w r, vs = [.ref A.p, .ref a] ∧ RunIn k K CR CW CT H0 H A S S.cnt ∧ A.ws = a :: as ∧ S.stk = w :: r ∧ w.turn < w.turns ∧
  Fin k K C CR CW CT H0 A.p Q E (if S.cnt = 2000 then .stop S dLong else .ok { S with cnt := S.cnt + 1, envs := S.envs.set w.fr (put (S.env w.fr) w.ctr w.turn), stk := { w with turn := w.turn + 1, at_ := 0 } :: r })
theorem scTurn : FnScope ["self", "walk"] ["self", "walk"] (defScope sTurn) := ⟨rfl, rfl, rfl, by decide +kernel, rfl, by decide +kernel, by decide +kernel⟩
theorem ok_turn (T : RunT K mg CR CW CT) (M1 : Mt P w K mg base CT "count_one" 3 ["self"] (spOne k K C CR CW CT)) (F : Fun K "begin_turn" "Run.begin_turn" sTurn f fd') :
    FnOk P w K mg base (CX1 P w) 4 f fd' ["self", "walk"] (spTurn k K C CR CW CT) := by
  refine F.ok1 scTurn (fun vs H Q E h => ?_) (fun cdv A outer s H vs Q E hr h => ?_)
  · obtain ⟨H0, A, S, a, as, w, r, rfl, _⟩ := h
    rfl
  obtain ⟨H0, A', S, a, as, w', r, rfl, R, hA, hS, hlt, q⟩ := h
  have hu := hu_of hr
  refine ⟨_, (pss_cons (ps_expr (pf_meth0 M1 (pe_fld (pv 0) rfl) hr pass1))
    (pss_cons (ps_dput hu (pe_fld (pv 1) rfl) (pe_fld (pv 1) rfl) (pe_fld (pv 1) rfl) rfl)
    (pss_cons (ps_fldaug (pv 1) pe_int in_add)
    (pss_one (ps_fld (pv 1) pe_int rfl))))), ?_⟩
  refine ⟨_, rfl, _, _, _, _, _, rfl, R.run, T.clR, T.nTrack, rfl, _, _, _, rfl, R.tr, rfl, H0, A', S, S.cnt, rfl, R, ?_⟩
  by_cases hc : S.cnt = 2000
  · rw [if_pos hc] at q
    rw [if_pos hc]
    exact Fin.xe R q
  · rw [if_neg hc] at q
    rw [if_neg hc]
    have R1 := R.one (by have := R.le; (first | lia | omega))
    have W := R1.ws
    rw [hA, show S.one.stk = w' :: r from hS] at W
    obtain ⟨⟨b, dx, d, hw, hd, hb, hk, h1, h2, h3⟩, _⟩ := W
    obtain ⟨g1, g2, g3⟩ := R1.envAt hd
    have le := R.le
    refine ⟨_, rfl, _, _, _, _, _, rfl, hw, T.clW, T.nTurn, rfl, _, rfl, _, _, _, _, _, rfl, hw, T.clW, T.nNames, rfl, _, rfl, _, _, _, _, _, rfl, hw, T.clW, T.nCounter, rfl, d, _, rfl, DPut.k (k := Sum.inr w'.ctr) g1 ?_, ?_⟩
    · unfold envD
      rw [List.length_map]
      exact Nat.lt_of_le_of_lt (Nat.le_trans g3 (show _ ≤ 3000 by (first | lia | omega))) (by decide)
    rw [putK_env]
    have R2 := R1.let_ (j := w'.fr) (x := w'.ctr) (i := w'.turn) hd (by (first | lia | omega)) (by show S.cnt < S.cnt + 1; (first | lia | omega))
    have W2 := R2.ws
    rw [hA, show (S.one.let_ w'.fr w'.ctr w'.turn).stk = w' :: r from hS] at W2
    obtain ⟨⟨b2, dx2, d2, hw2, hd2, hb2, _⟩, _⟩ := W2
    refine ⟨_, rfl, a, CW, dx2, _, _, rfl, hw2, T.clW, T.nTurn, rfl, _, _, rfl, rfl, _, _, hw2, (by show 7 < 1000; decide), ?_⟩
    refine ⟨_, rfl, a, CW, dx2, _, rfl, upd_same, T.clW, T.nAt, (by show 7 < 1000; decide), ?_⟩
    rw [upd_upd]
    have R3 := R2.top (w := w') (r := r) (w' := { w' with turn := w'.turn + 1, at_ := 0 }) (b := b2) (dx := dx2) (d := d2) hA hS hd2 hb2 hk (Nat.zero_le _) (by show 0 ≤ w'.turn + 1; (first | lia | omega)) h3
    exact q _ A' R3 rfl

noncomputable def spDo (k : Nat) (K : PySem.W.Frag) (C CR CW CT : Addr) : Sp := fun vs H Q E => ∃ H0 A S fr d v st, vs = [.ref A.p, v, .ref d] ∧ RunIn k K CR CW CT H0 H A S S.cnt ∧ Rp K H0 v st.dat ∧ st.ok k ∧ A.ds[fr]? = some d ∧
  Fin k K C CR CW CT H0 A.p Q E (if S.cnt = 2000 then .stop S dLong else doS S.one fr st)
theorem scDo : FnScope ["self", "statement", "names", "word"] ["self", "statement", "names"] (defScope sDo) := ⟨rfl, rfl, rfl, by decide +kernel, rfl, by decide +kernel, by decide +kernel⟩
theorem ok_do (T : RunT K mg CR CW CT) (M1 : Mt P w K mg base CT "count_one" 3 ["self"] (spOne k K C CR CW CT)) (FR : Fn P w K mg base "reckoned" (k + 5) ["told", "names"] (spReck K C k))
    (MH : Mt P w K mg base CT "make_hold" 1 ["self", "number"] (spHold k K CR CW CT)) (MM : Mt P w K mg base CT "make_move" 4 ["self", "kind", "axis", "number", "by"] (spMove k K C CR CW CT)) (MC : Mt P w K mg base CR "do_call" (k + 6) ["self", "statement", "names"] (spStm k K C CR CW CT isCall))
    (MT : Mt P w K mg base CR "do_times" (k + 6) ["self", "statement", "names"] (spStm k K C CR CW CT isTimes)) (MI : Mt P w K mg base CR "do_if" (k + 6) ["self", "statement", "names"] (spStm k K C CR CW CT isIf))
    (F : Fun K "do" "Run.do" sDo f fd') : FnOk P w K mg base (CX1 P w) (k + 7) f fd' ["self", "statement", "names"] (spDo k K C CR CW CT) := by
  have nd := scDo.nd
  refine F.ok1 scDo (fun vs H Q E h => ?_) (fun cdv A outer s H vs Q E hr h => ?_)
  · obtain ⟨H0, A, S, fr, d, v, st, rfl, _⟩ := h
    rfl
  obtain ⟨H0, A', S, fr, d, v, st, rfl, R, hv, sok, hd, q⟩ := h
  have hu := hu_of hr
  have hr3 : Room 3 _ := hr.mono (show 3 ≤ k + 6 by (first | lia | omega))
  have hr5 : Room (k + 5) _ := hr.mono (show k + 5 ≤ k + 6 by (first | lia | omega))
  have hr1 : Room 1 _ := hr.mono (show 1 ≤ k + 6 by (first | lia | omega))
  have hr4 : Room 4 _ := hr.mono (show 4 ≤ k + 6 by (first | lia | omega))
  refine ⟨_, (pss_cons (ps_expr (pf_meth0 M1 (pe_fld (pv 0) rfl) hr3 pass1))
    (pss_cons (ps_set (i := 3) nd rfl (Or.inl rfl) (pe_ix ix_tup (pv 1) pe_int (fun _ _ => rfl)))
    (pss_one (ps_if (pt_cmpR op_eq (pv 3) pe_str (nomark _)) (pss_one (ps_expr (pf_meth MH (pe_fld (pv 0) rfl) hr1 (pass1 (E := E)) (pa_cons (pf_call FR hr5 rfl pass1 (pa_cons (pe_ix ix_tup (pv 1) pe_int (fun _ _ => rfl)) (pa_cons (pv 2) pa_nil))) pa_nil))))
      (pss_one (ps_if (pt_cmpR op_eq (pv 3) pe_str (nomark _)) (pss_one (ps_expr (pf_meth MM (pe_fld (pv 0) rfl) hr4 pass1 (pa_cons (pe_ix ix_tup (pv 1) pe_int (fun _ _ => rfl)) (pa_cons (pe_ix ix_tup (pv 1) pe_int (fun _ _ => rfl)) (pa_cons (pf_call FR hr5 rfl pass1 (pa_cons (pe_ix ix_tup (pv 1) pe_int (fun _ _ => rfl)) (pa_cons (pv 2) pa_nil))) (pa_cons (pe_ix ix_tup (pv 1) pe_int (fun _ _ => rfl)) pa_nil)))))))
      (pss_one (ps_if (pt_cmpR op_eq (pv 3) pe_str (nomark _)) (pss_one (ps_dput hu (pv 2) (pe_ix ix_tup (pv 1) pe_int (fun _ _ => rfl)) (pf_call FR hr5 rfl pass1 (pa_cons (pe_ix ix_tup (pv 1) pe_int (fun _ _ => rfl)) (pa_cons (pv 2) pa_nil))) rfl))
      (pss_one (ps_if (pt_cmpR op_eq (pv 3) pe_str (nomark _)) (pss_one (ps_expr (pf_meth MC (pv 0) hr pass1 (pa_cons (pv 1) (pa_cons (pv 2) pa_nil)))))
      (pss_one (ps_if (pt_cmpR op_eq (pv 3) pe_str (nomark _)) (pss_one (ps_expr (pf_meth MT (pv 0) hr pass1 (pa_cons (pv 1) (pa_cons (pv 2) pa_nil)))))
      (pss_one (ps_expr (pf_meth MI (pv 0) hr pass1 (pa_cons (pv 1) (pa_cons (pv 2) pa_nil))))))))))))))))), ?_⟩
  refine ⟨_, rfl, _, _, _, _, _, rfl, R.run, T.clR, T.nTrack, rfl, _, _, _, rfl, R.tr, rfl, H0, A', S, S.cnt, rfl, R, ?_⟩
  by_cases hc : S.cnt = 2000
  · rw [if_pos hc] at q
    rw [if_pos hc]
    exact Fin.xe R q
  rw [if_neg hc] at q
  rw [if_neg hc]
  have R1 := R.one (by have := R.le; (first | lia | omega))
  obtain ⟨g1, g2, g3⟩ := R1.envAt hd
  have le := R.le
  generalize hH1 : upd H A'.t (.ins CT A'.tdx (fT A'.mv A'.pl ((S.cnt : Int) + 1))) = H1 at R1 g1
  cases st with
  | hold e =>
    rw [Stm.ok] at sok
    obtain ⟨t, x, rfl, ht0, hx⟩ := stHold hv
    have ht := R1.same.sqT ht0
    refine ⟨_, rfl, _, _, _, _, rfl, rfl, ht, rfl, _, rfl, rfl, _, rfl, ?_⟩
    refine iteT ?_
    refine ⟨_, rfl, _, _, _, _, _, rfl, R1.run, T.clR, T.nTrack, rfl, _, _, _, rfl, R1.tr, rfl, _, rfl, _, _, _, _, rfl, rfl, ht, rfl, _, rfl, x, d, _, e, rfl, hx.same R1.same, g1, g2, sok.1, sok.2, ?_⟩
    rw [doS] at q
    cases e1 : reck (look (S.one.env fr)) e with
    | error d1 =>
      rw [e1] at q
      exact Fin.xe R1 q
    | ok i =>
      rw [e1] at q
      exact ⟨H0, A', S.one, S.cnt, i, rfl, R1, (by show S.cnt < S.cnt + 1; (first | lia | omega)), fun H2 R2 => q _ A' R2 rfl⟩
  | move m a e y =>
    rw [Stm.ok] at sok
    obtain ⟨t, x, rfl, ht0, hx⟩ := stMove hv
    have ht := R1.same.sqT ht0
    refine ⟨_, rfl, _, _, _, _, rfl, rfl, ht, rfl, _, rfl, rfl, _, rfl, ?_⟩
    refine iteF ⟨_, rfl, rfl, _, rfl, ?_⟩
    refine iteT ?_
    refine ⟨_, rfl, _, _, _, _, _, rfl, R1.run, T.clR, T.nTrack, rfl, _, _, _, rfl, R1.tr, rfl, _, rfl, _, _, _, _, rfl, rfl, ht, rfl, _, rfl, _, _, _, _, rfl, rfl, ht, rfl, _, rfl, _, _, _, _, rfl, rfl, ht, rfl, _, rfl, x, d, _, e, rfl, hx.same R1.same, g1, g2, sok.2.1, sok.2.2, ?_⟩
    rw [doS] at q
    cases e1 : reck (look (S.one.env fr)) e with
    | error d1 =>
      rw [e1] at q
      exact Fin.xe R1 q
    | ok i =>
      rw [e1] at q
      have ib := reck_small (fun x i h => look_small g2 h) e e1
      have eb : bnd i = .ok i := by unfold bnd; rw [if_pos ib]
      refine ⟨_, rfl, _, _, _, _, rfl, rfl, ht, rfl, H0, A', S.one, S.cnt, m, a, i, y, rfl, R1, (by show S.cnt < S.cnt + 1; (first | lia | omega)), sok.1, ?_⟩
      have q' : Fin k K C CR CW CT H0 A'.p Q E (if y = true then match bnd ((look S.one.pl a).getD 0 + i) with | .error d => .stop S.one d | .ok j => .ok ((S.one.put a j).say [.str m, .str a, .int j]) else .ok ((S.one.put a i).say [.str m, .str a, .int i])) := q
      cases y with
      | false =>
        rw [if_neg Bool.false_ne_true, eb]
        exact fun H2 R2 => q' _ A' R2 rfl
      | true =>
        rw [if_pos rfl] at q' ⊢
        cases e2 : bnd ((look S.one.pl a).getD 0 + i) with
        | error d1 =>
          rw [e2] at q'
          exact Fin.xe R1 q'
        | ok j =>
          rw [e2] at q'
          exact fun H2 R2 => q' _ A' R2 rfl
  | lt n e =>
    rw [Stm.ok] at sok
    obtain ⟨t, x, rfl, ht0, hx⟩ := stLet hv
    have ht := R1.same.sqT ht0
    refine ⟨_, rfl, _, _, _, _, rfl, rfl, ht, rfl, _, rfl, rfl, _, rfl, ?_⟩
    refine iteF ⟨_, rfl, rfl, _, rfl, ?_⟩
    refine iteF ⟨_, rfl, rfl, _, rfl, ?_⟩
    refine iteT ?_
    refine ⟨_, rfl, _, _, _, _, rfl, rfl, ht, rfl, _, rfl, x, d, _, e, rfl, hx.same R1.same, g1, g2, sok.1, sok.2, ?_⟩
    rw [doS] at q
    cases e1 : reck (look (S.one.env fr)) e with
    | error d1 =>
      rw [e1] at q
      exact Fin.xe R1 q
    | ok i =>
      rw [e1] at q
      refine ⟨_, rfl, _, rfl, _, _, _, _, rfl, rfl, ht, rfl, d, _, rfl, DPut.k (k := Sum.inr n) g1 ?_, ?_⟩
      · unfold envD
        rw [List.length_map]
        exact Nat.lt_of_le_of_lt (Nat.le_trans g3 (show _ ≤ 3000 by (first | lia | omega))) (by decide)
      · have R2 := R1.let_ (j := fr) (x := n) (i := i) hd (reck_small (fun x i h => look_small g2 h) e e1) (by show S.cnt < S.cnt + 1; (first | lia | omega))
        rw [putK_env]
        exact q _ A' R2 rfl
  | call x es =>
    obtain ⟨t, l, xs, rfl, ht0, _⟩ := stCall hv
    have ht := R1.same.sqT ht0
    refine ⟨_, rfl, _, _, _, _, rfl, rfl, ht, rfl, _, rfl, rfl, _, rfl, ?_⟩
    refine iteF ⟨_, rfl, rfl, _, rfl, ?_⟩
    refine iteF ⟨_, rfl, rfl, _, rfl, ?_⟩
    refine iteF ⟨_, rfl, rfl, _, rfl, ?_⟩
    refine iteT ?_
    exact ⟨_, rfl, _, _, _, rfl, R1.run, rfl, _, rfl, _, rfl, H0, A', S.one, S.cnt, fr, d, _, _, rfl, R1, rfl, hv, sok, hd, True.intro, q⟩
  | times n e b =>
    obtain ⟨t, x, l, rfl, ht0, hx, _⟩ := stTimes hv
    have ht := R1.same.sqT ht0
    refine ⟨_, rfl, _, _, _, _, rfl, rfl, ht, rfl, _, rfl, rfl, _, rfl, ?_⟩
    refine iteF ⟨_, rfl, rfl, _, rfl, ?_⟩
    refine iteF ⟨_, rfl, rfl, _, rfl, ?_⟩
    refine iteF ⟨_, rfl, rfl, _, rfl, ?_⟩
    refine iteF ⟨_, rfl, rfl, _, rfl, ?_⟩
    refine iteT ?_
    exact ⟨_, rfl, _, _, _, rfl, R1.run, rfl, _, rfl, _, rfl, H0, A', S.one, S.cnt, fr, d, _, _, rfl, R1, rfl, hv, sok, hd, True.intro, q⟩
  | iff sg e1 e2 b1 b2 =>
    obtain ⟨t, x1, x2, l1, l2, rfl, ht0, _⟩ := stIf hv
    have ht := R1.same.sqT ht0
    refine ⟨_, rfl, _, _, _, _, rfl, rfl, ht, rfl, _, rfl, rfl, _, rfl, ?_⟩
    refine iteF ⟨_, rfl, rfl, _, rfl, ?_⟩
    refine iteF ⟨_, rfl, rfl, _, rfl, ?_⟩
    refine iteF ⟨_, rfl, rfl, _, rfl, ?_⟩
    refine iteF ⟨_, rfl, rfl, _, rfl, ?_⟩
    refine iteF ?_
    exact ⟨_, rfl, _, _, _, rfl, R1.run, rfl, _, rfl, _, rfl, H0, A', S.one, S.cnt, fr, d, _, _, rfl, R1, rfl, hv, sok, hd, True.intro, q⟩

noncomputable def spStep (k : Nat) (K : PySem.W.Frag) (C CR CW CT : Addr) : Sp := fun vs H Q E => ∃ H0 A S a as w r, vs = [.ref A.p, .ref a] ∧ RunIn k K CR CW CT H0 H A S S.cnt ∧ A.ws = a :: as ∧ S.stk = w :: r ∧ Fin k K C CR CW CT H0 A.p Q E (stepW S w r)
theorem scStep : FnScope ["self", "walk"] ["self", "walk"] (defScope sStep) := ⟨rfl, rfl, rfl, by decide +kernel, rfl, by decide +kernel, by decide +kernel⟩
theorem rps_list {H : Hp} {xs : List V} {b : List Stm} (h : Rps K H xs (dats b)) : xs.length = b.length := by rw [h.length, dats_map, List.length_map]
theorem rps_stm {H : Hp} {xs : List V} {b : List Stm} (h : Rps K H xs (dats b)) {i : Nat} {s : Stm} (e : b[i]? = some s) : ∃ x, xs[i]? = some x ∧ Rp K H x s.dat := by
  refine h.get ?_
  rw [dats_map, List.getElem?_map, e]
  rfl
theorem ok_step (T : RunT K mg CR CW CT) (MD : Mt P w K mg base CR "do" (k + 7) ["self", "statement", "names"] (spDo k K C CR CW CT)) (MT : Mt P w K mg base CR "begin_turn" 4 ["self", "walk"] (spTurn k K C CR CW CT))
    (F : Fun K "step" "Run.step" sStep f fd') : FnOk P w K mg base (CX1 P w) (k + 8) f fd' ["self", "walk"] (spStep k K C CR CW CT) := by
  refine F.ok1 scStep (fun vs H Q E h => ?_) (fun cdv A outer s H vs Q E hr h => ?_)
  · obtain ⟨H0, A, S, a, as, w, r, rfl, _⟩ := h
    rfl
  obtain ⟨H0, A', S, a, as, w', r, rfl, R, hA, hS, q⟩ := h
  have hr4 : Room 4 _ := hr.mono (show 4 ≤ k + 7 by (first | lia | omega))
  refine ⟨_, (pss_one (ps_if (pt_cmpR op_lt (pe_fld (pv 1) rfl) (pe_callB call_len_seq rfl T.len PySem.boot_len (pa_cons (pe_fld (pv 1) rfl) pa_nil)) (nomark _)) (pss_cons (ps_fldaug (pv 1) pe_int in_add)
    (pss_one (ps_expr (pf_meth MD (pv 0) hr pass1 (pa_cons (pe_ix ix_list (pe_fld (pv 1) rfl) (pe_op op_sub (pe_fld (pv 1) rfl) pe_int) (fun _ _ => rfl)) (pa_cons (pe_fld (pv 1) rfl) pa_nil)))))) (pss_one (ps_if (pt_cmpR op_lt (pe_fld (pv 1) rfl) (pe_fld (pv 1) rfl) (nomark _)) (pss_one (ps_expr (pf_meth MT (pv 0) hr4 pass1 (pa_cons (pv 1) pa_nil)))) (pss_one (ps_expr (pe_bm0 PySem.F.plainAttrs_list PySem.F.slot_list_pop PySem.F.type_list_pop mt_pop (pe_fld (pv 0) rfl)))))))), ?_⟩
  have W := R.ws
  rw [hA, hS] at W
  obtain ⟨⟨b, dx, d, hw, hd, hb, hk, h1, h2, h3⟩, _⟩ := W
  obtain ⟨l', xs, el, hsq0, hrs⟩ := Rp.lstO hb
  cases el
  have hsq := R.same.seq hsq0
  have xl := rps_list hrs
  unfold stepW at q
  refine ⟨_, rfl, _, _, _, _, _, rfl, hw, T.clW, T.nAt, rfl, _, rfl, _, _, _, _, _, rfl, hw, T.clW, T.nBody, rfl, b, xs, rfl, .inl hsq, _, _, rfl, rfl, _, rfl, ?_⟩
  refine ite2 (fun c => ?_) (fun c => ?_)
  · have c' : (w'.at_ : Int) < (xs.length : Int) := of_decide_eq_true c
    have lt : w'.at_ < w'.body.length := by (first | lia | omega)
    have eg : w'.body[w'.at_]? = some w'.body[w'.at_] := List.getElem?_eq_getElem lt
    rw [eg] at q
    obtain ⟨x, hx, rx⟩ := rps_stm hrs eg
    have R1 := R.top (w := w') (r := r) (w' := { w' with at_ := w'.at_ + 1 }) (b := b) (dx := dx) (d := d) hA hS hd hb hk (by show w'.at_ + 1 ≤ w'.body.length; (first | lia | omega)) h2 h3
    refine ⟨_, rfl, _, _, _, _, _, rfl, hw, T.clW, T.nAt, rfl, _, _, rfl, rfl, _, _, hw, (by show 7 < 1000; decide), ?_⟩
    have hw1 : upd H a (.ins CW dx (putF "at" (.int ((w'.at_ : Int) + 1)) (fW b d w'.oc (w'.at_ : Int) w'.ctr w'.turn w'.turns))) a = some (.ins CW dx (fW b d w'.oc ((w'.at_ : Int) + 1) w'.ctr w'.turn w'.turns)) := upd_same
    have e1 : upd H a (.ins CW dx (putF "at" (.int ((w'.at_ : Int) + 1)) (fW b d w'.oc (w'.at_ : Int) w'.ctr w'.turn w'.turns))) = upd H a (.ins CW dx (fW b d w'.oc ((w'.at_ + 1 : Nat) : Int) w'.ctr w'.turn w'.turns)) := by
      rw [show ((w'.at_ + 1 : Nat) : Int) = (w'.at_ : Int) + 1 by (first | lia | omega)]
      rfl
    have R2 : RunIn k K CR CW CT H0 (upd H a (.ins CW dx (putF "at" (.int ((w'.at_ : Int) + 1)) (fW b d w'.oc (w'.at_ : Int) w'.ctr w'.turn w'.turns)))) A' { S with stk := { w' with at_ := w'.at_ + 1 } :: r } S.cnt := by rw [e1]; exact R1
    refine ⟨_, rfl, _, _, _, rfl, R2.run, rfl, _, rfl, _, _, _, _, _, rfl, hw1, T.clW, T.nBody, rfl, _, rfl, _, _, _, _, _, rfl, hw1, T.clW, T.nAt, rfl, _, _, rfl, rfl, b, xs, _, x, rfl, rfl, R2.same.seq hsq0, ?_, _, rfl, _, _, _, _, _, rfl, hw1, T.clW, T.nNames, rfl, ?_⟩
    · rw [show (w'.at_ : Int) + 1 - 1 = (w'.at_ : Int) by (first | lia | omega)]
      exact atI_nat hx
    · refine ⟨H0, A', _, w'.fr, d, x, _, rfl, R2, rx, oks_get hk eg, hd, ?_⟩
      exact q
  · have c' : ¬ (w'.at_ : Int) < (xs.length : Int) := of_decide_eq_false (Bool.eq_false_iff.mpr c)
    have eg : w'.body[w'.at_]? = none := List.getElem?_eq_none (by (first | lia | omega))
    rw [eg] at q
    refine ⟨_, rfl, _, _, _, _, _, rfl, hw, T.clW, T.nTurn, rfl, _, rfl, _, _, _, _, _, rfl, hw, T.clW, T.nTurns, rfl, _, _, rfl, rfl, _, rfl, ?_⟩
    refine ite2 (fun c2 => ?_) (fun c2 => ?_)
    · have c3 : w'.turn < w'.turns := of_decide_eq_true c2
      have q' : Fin k K C CR CW CT H0 A'.p Q E (if w'.turn < w'.turns then if S.cnt = 2000 then .stop S dLong else .ok { S with cnt := S.cnt + 1, envs := S.envs.set w'.fr (put (S.env w'.fr) w'.ctr w'.turn), stk := { w' with turn := w'.turn + 1, at_ := 0 } :: r } else .ok { S with stk := r }) := q
      rw [if_pos c3] at q'
      exact ⟨_, rfl, _, _, _, rfl, R.run, rfl, _, rfl, H0, A', S, a, as, w', r, rfl, R, hA, hS, c3, q'⟩
    · have c3 : ¬ w'.turn < w'.turns := of_decide_eq_false (Bool.eq_false_iff.mpr c2)
      have q' : Fin k K C CR CW CT H0 A'.p Q E (if w'.turn < w'.turns then if S.cnt = 2000 then .stop S dLong else .ok { S with cnt := S.cnt + 1, envs := S.envs.set w'.fr (put (S.env w'.fr) w'.ctr w'.turn), stk := { w' with turn := w'.turn + 1, at_ := 0 } :: r } else .ok { S with stk := r }) := q
      rw [if_neg c3] at q'
      have e0 : A'.ws.reverse.map V.ref = as.reverse.map V.ref ++ [.ref a] := by rw [hA, List.reverse_cons, List.map_append]; rfl
      have wk := R.wk
      rw [e0] at wk
      refine ⟨_, rfl, _, _, _, _, _, rfl, R.run, T.clR, T.nWalks, rfl, .inl ⟨rfl, _, SqL.of wk⟩, A'.wk, _, .ref a, rfl, rfl, wk, by simp, ?_⟩
      rw [List.dropLast_concat]
      exact q' _ { A' with ws := as } (R.pop hA hS) rfl

noncomputable def runN : Nat → RS → Res
  | 0, S => .ok S
  | n + 1, S => match S.stk with
    | [] => .ok S
    | w :: r => match stepW S w r with
      | .ok S' => runN n S'
      | .stop S' d => .stop S' d | .bad => .bad
theorem runN_nil {S : RS} (h : S.stk = []) (n : Nat) : runN n S = .ok S := by
  cases n with
  | zero => rfl
  | succ n => rw [runN, h]
theorem doS_meas {S S' : RS} {fr : Nat} {st : Stm} (h : doS S fr st = .ok S') : S'.cnt = S.cnt ∧ S'.stk.length ≤ S.stk.length + 1 := by
  cases st with
  | hold e =>
    rw [doS] at h
    split at h <;> cases h
    exact ⟨rfl, Nat.le_succ _⟩
  | move m a e y =>
    rw [doS] at h
    split at h
    · cases h
    · split at h
      · split at h <;> cases h
        exact ⟨rfl, Nat.le_succ _⟩
      · cases h
        exact ⟨rfl, Nat.le_succ _⟩
  | lt x e =>
    rw [doS] at h
    split at h <;> cases h
    exact ⟨rfl, Nat.le_succ _⟩
  | call x es =>
    rw [doS] at h
    unfold callS at h
    split at h
    · cases h
    · split at h
      · cases h
      · split at h <;> cases h
        exact ⟨rfl, Nat.le_refl _⟩
  | times x e b =>
    rw [doS] at h
    split at h <;> cases h
    exact ⟨rfl, Nat.le_refl _⟩
  | iff s e f b c =>
    rw [doS] at h
    split at h
    · cases h
    · split at h <;> cases h
      exact ⟨rfl, Nat.le_refl _⟩
theorem stepW_meas {S S' : RS} {w : Wk} {r : List Wk} (hS : S.stk = w :: r) (hc : S.cnt ≤ 2000) (h : stepW S w r = .ok S') : meas S' < meas S := by
  unfold stepW at h
  unfold meas
  rw [hS, List.length_cons]
  split at h
  · split at h
    · cases h
    · rename_i ne
      obtain ⟨h1, h2⟩ := doS_meas h
      have h1' : S'.cnt = S.cnt + 1 := h1
      have h2' : S'.stk.length ≤ r.length + 1 + 1 := h2
      (first | lia | omega)
  · split at h
    · split at h
      · cases h
      · cases h
        show 2 * (2000 - (S.cnt + 1)) + (r.length + 1) < _
        (first | lia | omega)
    · cases h
      show 2 * (2000 - S.cnt) + r.length < _
      (first | lia | omega)
noncomputable def spGo (k : Nat) (K : PySem.W.Frag) (C CR CW CT : Addr) : Sp := fun vs H Q E => ∃ H0 A S m, vs = [.ref A.p] ∧ RunIn k K CR CW CT H0 H A S S.cnt ∧ meas S ≤ m ∧ Fin k K C CR CW CT H0 A.p Q E (runN m S)
theorem scGo : FnScope ["self"] ["self"] (defScope sGo) := ⟨rfl, rfl, rfl, by decide +kernel, rfl, by decide +kernel, by decide +kernel⟩
theorem ok_go (T : RunT K mg CR CW CT) (MS : Mt P w K mg base CR "step" (k + 8) ["self", "walk"] (spStep k K C CR CW CT)) (F : Fun K "go" "Run.go" sGo f fd') : FnOk P w K mg base (CX1 P w) (k + 9) f fd' ["self"] (spGo k K C CR CW CT) := by
  refine F.ok1 scGo (fun vs H Q E h => ?_) (fun cdv A outer s H vs Q E hr h => ?_)
  · obtain ⟨H0, A, S, m, rfl, _⟩ := h
    rfl
  obtain ⟨H0, A', S, m, rfl, R, hm, q⟩ := h
  refine ⟨_, (pss_one (ps_while own1 (pt_truth (pe_fld (pv 0) rfl) (fun _ => rfl)) (pss_one (ps_expr (pf_meth MS (pv 0) hr pass1 (pa_cons (pe_ix ix_list (pe_fld (pv 0) rfl) (pe_un un_neg pe_int) (fun _ _ => rfl)) pa_nil)))))), ?_⟩
  refine ⟨fun m σ H => σ = [some (.ref A'.p)] ∧ ∃ A S, A.p = A'.p ∧ RunIn k K CR CW CT H0 H A S S.cnt ∧ meas S ≤ m ∧ Fin k K C CR CW CT H0 A'.p Q E (runN m S), ⟨m, rfl, A', S, rfl, R, hm, q⟩, ?_⟩
  rintro m σ H1 ⟨rfl, A1, S1, ep, R1, hm1, q1⟩
  have run1 := R1.run
  rw [ep] at run1
  refine ⟨_, rfl, _, _, _, _, _, rfl, run1, T.clR, T.nWalks, rfl, _, .inl ⟨_, SqL.of R1.wk, rfl⟩, ?_⟩
  cases hs : S1.stk with
  | nil =>
    have hl := R1.ws.len
    rw [hs] at hl
    have hw : A1.ws = [] := List.eq_nil_of_length_eq_zero hl
    rw [hw]
    refine iteF ?_
    rw [runN_nil hs] at q1
    exact q1 _ A1 R1 ep
  | cons w1 r =>
    have hl := R1.ws.len
    rw [hs, List.length_cons] at hl
    obtain ⟨a, as, hA⟩ : ∃ a as, A1.ws = a :: as := by
      cases e : A1.ws with
      | nil => rw [e] at hl; cases hl
      | cons a as => exact ⟨a, as, rfl⟩
    have e0 : A1.ws.reverse.map V.ref = as.reverse.map V.ref ++ [.ref a] := by rw [hA, List.reverse_cons, List.map_append]; rfl
    have wk := R1.wk
    rw [e0] at wk ⊢
    rw [show (!(as.reverse.map V.ref ++ [V.ref a]).isEmpty) = true by simp]
    refine iteT ?_
    cases m with
    | zero => unfold meas at hm1; rw [hs, List.length_cons] at hm1; (first | lia | omega)
    | succ m =>
      refine ⟨fun σ H => σ = [some (.ref A'.p)] ∧ ∃ A S, A.p = A'.p ∧ RunIn k K CR CW CT H0 H A S S.cnt ∧ meas S ≤ m ∧ Fin k K C CR CW CT H0 A'.p Q E (runN m S), fun σ' H' h => ⟨m, Nat.lt_succ_self _, h⟩, ?_⟩
      rw [runN, hs] at q1
      refine ⟨_, rfl, _, _, _, rfl, run1, rfl, _, rfl, _, _, _, _, _, rfl, run1, T.clR, T.nWalks, rfl, _, rfl, A1.wk, _, _, .ref a, rfl, rfl, SqL.of wk, atI_last _ _, H0, A1, S1, a, as, w1, r, by rw [ep]; rfl, R1, hA, hs, ?_⟩
      cases e : stepW S1 w1 r with
      | ok S' =>
        have q2 : Fin k K C CR CW CT H0 A'.p Q E (match stepW S1 w1 r with | .ok S' => runN m S' | .stop S' d => .stop S' d | .bad => .bad) := q1
        rw [e] at q2
        intro H' A2 R2 ep2
        have := stepW_meas hs R1.le.2.1 e
        exact ⟨rfl, A2, S', ep2.trans ep, R2, by (first | lia | omega), q2⟩
      | stop S' d =>
        have q2 : Fin k K C CR CW CT H0 A'.p Q E (match stepW S1 w1 r with | .ok S' => runN m S' | .stop S' d => .stop S' d | .bad => .bad) := q1
        rw [e] at q2
        rw [ep]
        exact q2
      | bad =>
        have q2 : Fin k K C CR CW CT H0 A'.p Q E (match stepW S1 w1 r with | .ok S' => runN m S' | .stop S' d => .stop S' d | .bad => .bad) := q1
        rw [e] at q2
        exact (show False from q2).elim
end
end Car

set_option maxHeartbeats 1000000
namespace Car
open PySem L2
structure Prog where
  subs : List Sub
  body : List Stm
noncomputable def Prog.dat (p : Prog) : PyData := .tuple [.list (p.subs.map Sub.dat), .list (dats p.body)]
noncomputable def Prog.ok (k : Nat) (p : Prog) : Prop := oks k p.body ∧ p.subs.length ≤ 1000 ∧ ∀ s ∈ p.subs, oks k s.body
noncomputable abbrev begN : Nm := [("x", 0), ("y", 0), ("z", 1000)]
noncomputable def S0 (p : Prog) : RS := ⟨0, [], begN, [[]], [⟨p.body, 0, false, 0, "", 0, 0⟩], p.subs⟩
noncomputable def resOf : Res → List (List V) × PyData
  | .ok S => (S.moves, dDone)
  | .stop S d => (S.moves, d)
  | .bad => ([], .none)
noncomputable def runP (p : Prog) : List (List V) × PyData := resOf (runN 4001 (S0 p))
section
variable {k : Nat} {P : Program} {w : World} {K : PySem.W.Frag} {mg : Str → Option Value} {base : Heap} {C CR CW CT fI f : Addr} {fd fd' : FuncData}
theorem stp {G : Hp} {p q C dx : Addr} {o : HO} {fs fs' : List (Str × V)} (hp : G p = some (.ins C dx fs)) (hq : G q = none) : (upd (upd G q o) p (.ins C dx fs')) p = some (.ins C dx fs') ∧ (upd (upd G q o) p (.ins C dx fs')) q = some o ∧ ∀ b u, b ≠ p → G b = some u → (upd (upd G q o) p (.ins C dx fs')) b = some u :=
  ⟨upd_same, by rw [upd_ne (Ne.symm (ne_of_none hp hq)), upd_same], fun b u h e => by rw [upd_ne h, upd_ne (ne_of_none e hq)]; exact e⟩
noncomputable def spRunI (k : Nat) (K : PySem.W.Frag) (CR CW CT : Addr) : Sp := fun vs H Q _ => ∃ H0 p dx v pr, vs = [.ref p, v] ∧ Same H0 H ∧ H0 p = none ∧ H p = some (.ins CR dx []) ∧ Rp K H0 v pr.dat ∧ pr.ok k ∧
  ∀ H' A, RunIn k K CR CW CT H0 H' A (S0 pr) 0 → A.p = p → Q .non H'
theorem scRunI : FnScope ["self", "program"] ["self", "program"] (defScope sRunI) := ⟨rfl, rfl, rfl, by decide +kernel, rfl, by decide +kernel, by decide +kernel⟩
theorem subO {H : Hp} {x : V} {s : Sub} (h : Rp K H x s.dat) : ∃ a y z, x = .ref a ∧ SqT K H a [.str s.name, y, z] := by
  obtain ⟨a, xs, rfl, h1, r⟩ := Rp.tupO h
  obtain ⟨x, xs, rfl, hx, r⟩ := r.consO
  obtain ⟨y, xs, rfl, hy, r⟩ := r.consO
  obtain ⟨z, xs, rfl, hz, r⟩ := r.consO
  cases r.nilO
  cases hx.strO
  exact ⟨a, y, z, rfl, h1⟩
theorem progO {H : Hp} {v : V} {p : Prog} (h : Rp K H v p.dat) : ∃ a l xs b, v = .ref a ∧ SqT K H a [.ref l, .ref b] ∧ SqL K H l xs ∧ Rps K H xs (p.subs.map Sub.dat) ∧ Rp K H (.ref b) (.list (dats p.body)) := by
  obtain ⟨a, xs, rfl, h1, r⟩ := Rp.tupO h
  obtain ⟨x, xs, rfl, hx, r⟩ := r.consO
  obtain ⟨y, xs, rfl, hy, r⟩ := r.consO
  cases r.nilO
  obtain ⟨l, xs, rfl, h2, r2⟩ := Rp.lstO hx
  obtain ⟨b, ys, rfl, h3, r3⟩ := Rp.lstO hy
  exact ⟨a, l, xs, b, rfl, h1, h2, r2, hy⟩
theorem strsO {H : Hp} : ∀ {xs : List Str} {us : List V}, Rps K H us (xs.map PyData.str) → us = xs.map V.str
  | [], _, h => by cases h.nilO; rfl
  | x :: xs, us, h => by
    rw [List.map_cons] at h
    obtain ⟨y, ys, rfl, hy, hys⟩ := h.consO
    cases hy.strO
    rw [strsO hys]
    rfl
theorem subD_none {x : Str} : ∀ {subs : List Sub} {xs : List V} {kvs : List (Key × V)}, subOf x subs = none → valV (putAllK kvs (List.zipWith (fun (sb : Sub) y => ((Sum.inr sb.name : Key), y)) subs xs)) (Sum.inr x : Key) = valV kvs (Sum.inr x : Key)
  | [], xs, kvs, _ => by rw [List.zipWith_nil_left, putAllK]
  | s :: r, [], kvs, _ => by rw [List.zipWith_nil_right, putAllK]
  | s :: r, y :: ys, kvs, h => by
    rw [subOf] at h
    cases h1 : subOf x r with
    | some t => rw [h1] at h; cases h
    | none =>
      rw [h1] at h
      have hn : s.name ≠ x := fun e => by simp [e] at h
      rw [List.zipWith_cons_cons, putAllK, subD_none h1]
      rw [valV_put, if_neg (fun z => hn (Sum.inr.inj z).symm)]
theorem subD_of {k : Nat} {H0 : Hp} {subs : List Sub} {xs : List V} (hxs : Rps K H0 xs (subs.map Sub.dat)) (ho : ∀ s ∈ subs, oks k s.body) : SubD K H0 k (putAllK [] (List.zipWith (fun (sb : Sub) y => ((Sum.inr sb.name : Key), y)) subs xs)) subs := by
  have go : ∀ (subs : List Sub) (xs : List V) (kvs : List (Key × V)), Rps K H0 xs (subs.map Sub.dat) → (∀ s ∈ subs, oks k s.body) → SubD K H0 k (putAllK kvs (List.zipWith (fun (sb : Sub) y => ((Sum.inr sb.name : Key), y)) subs xs)) subs := by
    intro subs
    induction subs with
    | nil => intro xs kvs _ _ x sb h; cases h
    | cons s r ih =>
      intro xs kvs hxs ho x sb h
      rw [List.map_cons] at hxs
      obtain ⟨y, ys, rfl, hy, hys⟩ := hxs.consO
      rw [subOf] at h
      rw [List.zipWith_cons_cons, putAllK]
      cases h1 : subOf x r with
      | some t =>
        rw [h1] at h
        cases h
        exact ih ys _ hys (fun q hq => ho q (List.mem_cons_of_mem _ hq)) x sb h1
      | none =>
        rw [h1] at h
        by_cases e : s.name = x
        · have h' : (if s.name = x then some s else none) = some sb := h
          rw [if_pos e] at h'
          cases h'
          obtain ⟨a1, zs, rfl, q1, r1⟩ := Rp.tupO hy
          obtain ⟨y1, zs, rfl, hy1, r1⟩ := r1.consO
          obtain ⟨y2, zs, rfl, hy2, r1⟩ := r1.consO
          obtain ⟨y3, zs, rfl, hy3, r1⟩ := r1.consO
          cases r1.nilO
          cases hy1.strO
          obtain ⟨fn, us, rfl, q2, r2⟩ := Rp.lstO hy2
          obtain ⟨fb, ws, rfl, q3, r3⟩ := Rp.lstO hy3
          refine ⟨a1, fn, fb, ?_, q1, ?_, hy3, ho _ List.mem_cons_self⟩
          · rw [subD_none h1, valV_put, if_pos (by rw [e])]
          · rw [show us = s.names.map V.str from strsO r2] at q2
            exact q2
        · have h' : (if s.name = x then some s else none) = some sb := h
          rw [if_neg e] at h'
          cases h'
  exact go subs xs [] hxs ho
structure BegT (P : Program) (w : World) (K : PySem.W.Frag) (mg : Str → Option Value) : Prop where
  ex : ∃ a, mg "BEGINNING" = some (.ref a) ∧ DkK P w K a (envD begN)
noncomputable def spTrackI (CT : Addr) : Sp := fun vs H Q _ => ∃ x dx, vs = [.ref x] ∧ H x = some (.ins CT dx []) ∧ ∀ mv pl H', (∀ b o, b ≠ x → H b = some o → H' b = some o) → H' x = some (.ins CT dx (fT mv pl 0)) → H' mv = some (.lst []) → H' pl = some (.dK (envD begN)) → H mv = none → H pl = none → Q .non H'
theorem scTrackI : FnScope ["self"] ["self"] (defScope sTrackI) := ⟨rfl, rfl, rfl, by decide +kernel, rfl, by decide +kernel, by decide +kernel⟩
theorem ok_trackI (T : RunT K mg CR CW CT) (B : BegT P w K mg) (F : Fun K "__init__" "Track.__init__" sTrackI f fd') : FnOk P w K mg base (CX1 P w) 1 f fd' ["self"] (spTrackI CT) := by
  refine F.ok1 scTrackI (fun vs H Q E h => ?_) (fun cdv A outer s H vs Q E hr h => ?_)
  · obtain ⟨x, dx, rfl, _⟩ := h
    rfl
  obtain ⟨x, dx, rfl, hx, q⟩ := h
  obtain ⟨ab, mgb, dkb⟩ := B.ex
  refine ⟨_, (pss_cons (ps_fld (pv 0) (pe_lst pa_nil) rfl)
    (pss_cons (ps_fld (pv 0) (pe_callTy call_dict_d rfl T.dict rfl (pa_cons (pe_glob (v := .ref ab) rfl mgb rfl) pa_nil)) rfl)
    (pss_one (ps_fld (pv 0) pe_int rfl)))), ?_⟩
  refine ⟨Nat.zero_le _, fun mv hmv => ?_⟩
  have xm : x ≠ mv := ne_of_none hx hmv
  refine ⟨_, rfl, x, CT, dx, _, rfl, same_upd hmv _ _ _ hx, T.clT, T.nMoves, (by decide), ?_⟩
  refine ⟨ab, _, rfl, .inr dkb, fun pl hpl => ?_⟩
  have px : pl ≠ x := fun z => by rw [z, upd_same] at hpl; cases hpl
  have pm : pl ≠ mv := fun z => by rw [z, upd_ne (Ne.symm xm), upd_same] at hpl; cases hpl
  refine ⟨_, rfl, x, CT, dx, _, rfl, (by rw [upd_ne (Ne.symm px)]; exact upd_same), T.clT, T.nPlaces, (by show 1 < 1000; decide), ?_⟩
  refine ⟨_, rfl, x, CT, dx, _, rfl, upd_same, T.clT, T.nCounted, (by show 2 < 1000; decide), ?_⟩
  refine q mv pl _ (fun b o hb e => ?_) upd_same ?_ ?_ hmv ?_
  · rw [upd_ne hb, upd_ne hb, upd_ne (fun z => ?_), upd_ne hb, upd_ne (fun z => ?_)]
    · exact e
    · rw [z, hmv] at e; cases e
    · subst z
      rw [upd_ne px, upd_ne pm] at hpl
      rw [hpl] at e
      cases e
  · rw [upd_ne (Ne.symm xm), upd_ne (Ne.symm xm), upd_ne (Ne.symm pm), upd_ne (Ne.symm xm), upd_same]
  · rw [upd_ne px, upd_ne px, upd_same]
  · rw [upd_ne px, upd_ne pm] at hpl
    exact hpl
theorem ok_runI (T : RunT K mg CR CW CT) (MTr : Mc P w K mg base "Track" CT 1 ["self"] (spTrackI CT)) (MW : Mc P w K mg base "Walk" CW 1 ["self", "body", "names", "of_call"] (spWalk CW)) (F : Fun K "__init__" "Run.__init__" sRunI f fd') :
    FnOk P w K mg base (CX1 P w) 3 f fd' ["self", "program"] (spRunI k K CR CW CT) := by
  refine F.ok1 scRunI (fun vs H Q E h => ?_) (fun cdv A outer s H vs Q E hr h => ?_)
  · obtain ⟨H0, p, dx, v, pr, rfl, _⟩ := h
    rfl
  obtain ⟨H0, p, dx, v, pr, rfl, s0, np, hp, hv, pok, q⟩ := h
  refine ⟨_, (pss_cons (ps_fld (pv 0) (pe_callTy (call_dict_l rfl) rfl T.dict rfl (pa_cons (pe_lc (own := ["sub"]) (capn := []) (capI := []) rfl (blk0 rfl (by decide +kernel)) (pi_list (pe_ix ix_tup (pv 1) pe_int (fun _ _ => rfl))) (fun _ _ _ _ _ _ => pg_name (i := 0) (nd1 "sub") rfl (Or.inl rfl)) (fun _ _ _ _ _ _ => pifs_nil) (fun _ _ _ _ _ _ => (pe_tup (pa_cons (pe_ix (ix_tupK (K := K) rfl) (pv 0) pe_int (fun _ _ => rfl)) (pa_cons (pv 0) pa_nil))))) pa_nil)) rfl)
    (pss_cons (ps_fld (pv 0) (pf_make0 MTr hr rfl (pass1 (E := E))) rfl)
    (pss_one (ps_fld (pv 0) (pe_lst (pa_cons (pf_make MW hr rfl (pass1 (E := E)) (pa_cons (pe_ix ix_tup (pv 1) pe_int (fun _ _ => rfl)) (pa_cons pe_dnewK (pa_cons pe_bl pa_nil)))) pa_nil)) rfl)))), ?_⟩
  obtain ⟨t, l, xs, b, rfl, ht0, hl0, hxs, hb⟩ := progO hv
  have ht := s0.sqT ht0
  have hl := s0.seq hl0
  refine ⟨_, rfl, _, _, _, _, rfl, rfl, ht, rfl, l, rfl, ⟨_, hl⟩, fun D hD => ?_⟩
  refine ⟨Wd xs.length (fun i σ acc H1 => ∃ (ts : List (Addr × Key × V)) (z : Option V), σ = [z] ∧ acc = ts.map (fun t => .ref t.1) ∧ ts.length = i ∧ (∀ t ∈ ts, H1 t.1 = some (.tup [kV t.2.1, t.2.2])) ∧ Same H H1 ∧ H1 D = some (.lst acc) ∧ ts.map (·.2) = (List.zipWith (fun (sb : Sub) x => ((Sum.inr sb.name : Key), x)) pr.subs xs).take i), wd_0 ⟨[], none, rfl, rfl, rfl, fun t h => by simp at h, same_upd hD _, upd_same, by rw [List.take_zero]; rfl⟩, ?_⟩
  rintro i m σ acc H1 ⟨rfl, hi0, ts, z, rfl, rfl, tl, hts, s1, hD1, tz⟩
  refine lc_ask (K := K) (xs := xs) (s1.seq hl) hi0 (fun x hx hi => ?_) (fun hend => ?_)
  · obtain ⟨sb, hsb, rx⟩ : ∃ sb : Sub, pr.subs[i]? = some sb ∧ Rp K H0 x sb.dat := by
      have il : i < (pr.subs.map Sub.dat).length := by rw [← hxs.length]; exact hi
      rw [List.length_map] at il
      obtain ⟨y, h1, h2⟩ := hxs.get (i := i) (x := (pr.subs[i]).dat) (by rw [List.getElem?_map, List.getElem?_eq_getElem il]; rfl)
      rw [hx] at h1
      cases h1
      exact ⟨_, List.getElem?_eq_getElem il, h2⟩
    obtain ⟨a, y, z', rfl, hta⟩ := subO rx
    have hta1 := (s0.trans s1).sqT hta

    refine ⟨_, rfl, _, _, _, _, rfl, rfl, hta1, rfl, _, rfl, (by show 2 ≤ sizeLine; decide), fun u hu => ?_⟩
    have s2 := same_upd hu (.tup [.str sb.name, .ref a])
    have len := hxs.length
    rw [List.length_map] at len
    refine ⟨s2 _ _ hD1, ?_, wd_next hi ?_⟩
    · rw [List.length_map, tl]
      have := pok.2.1
      exact line3 (show i ≤ 1000 by (first | lia | omega)) (by decide)
    · have nu : u ≠ D := fun e => by rw [e, hD1] at hu; cases hu
      have ez : (List.zipWith (fun (sb : Sub) x => ((Sum.inr sb.name : Key), x)) pr.subs xs)[i]? = some (Sum.inr sb.name, V.ref a) := by rw [List.getElem?_zipWith, hsb, hx]
      refine ⟨ts ++ [(u, Sum.inr sb.name, .ref a)], _, rfl, by rw [List.map_append]; rfl, by rw [List.length_append, tl]; rfl, fun t ht => ?_, ?_, upd_same, by rw [List.map_append, tz, List.take_add_one, ez]; rfl⟩
      · rcases List.mem_append.mp ht with ht | ht
        · have h1 := s2 _ _ (hts t ht)
          rw [upd_ne (fun e => by rw [e, s2 _ _ hD1] at h1; cases h1)]
          exact h1
        · have e : t = (u, Sum.inr sb.name, .ref a) := by simpa using ht
          subst e
          rw [upd_ne nu, upd_same]
          rfl
      · refine same_in (s1.trans s2) hD
  · refine ⟨D, ts, rfl, hD1, hts, fun sd hsd => ?_⟩
    have s2 := s1.trans (same_upd hsd (.dK (putAllK [] (ts.map (·.2)))))
    have hps := s2 _ _ hp
    refine ⟨_, rfl, p, CR, dx, _, rfl, hps, T.clR, T.nSubs, (by decide), ?_⟩
    -- subs
    have b1 : upd (upd H1 sd (.dK (putAllK [] (ts.map (·.2))))) p (.ins CR dx (putF "subs" (.ref sd) [])) p = some (.ins CR dx (putF "subs" (.ref sd) [])) := upd_same
    have b2 : Same H0 (upd (upd H1 sd (.dK (putAllK [] (ts.map (·.2))))) p (.ins CR dx (putF "subs" (.ref sd) []))) := same_in (s0.trans s2) np
    have psd : p ≠ sd := ne_of_none (s1 _ _ hp) hsd
    have bsd : upd (upd H1 sd (.dK (putAllK [] (ts.map (·.2))))) p (.ins CR dx (putF "subs" (.ref sd) [])) sd = some (.dK (putAllK [] (ts.map (·.2)))) := by rw [upd_ne (Ne.symm psd), upd_same]
    generalize upd (upd H1 sd (.dK (putAllK [] (ts.map (·.2))))) p (.ins CR dx (putF "subs" (.ref sd) [])) = G1 at b1 b2 bsd
    -- track
    refine fun t tdx ht htd tdn => ⟨t, tdx, rfl, upd_same, fun mv pl G3 k3 ht3 hmv3 hpl3 hmv hpl => ⟨rfl, ?_⟩⟩
    have tG1 : ∀ b u, G1 b = some u → b ≠ t ∧ b ≠ tdx := fun b u e => ⟨ne_of_none e ht, ne_of_none e htd⟩
    have k13 : Same G1 G3 := fun b u e => k3 b u (tG1 b u e).1 (by rw [upd_ne (tG1 b u e).1, upd_ne (tG1 b u e).2]; exact e)
    have mvt : mv ≠ t := fun z => by rw [z, upd_same] at hmv; cases hmv
    have plt : pl ≠ t := fun z => by rw [z, upd_same] at hpl; cases hpl
    have mvd : mv ≠ tdx := fun z => by rw [z, upd_ne tdn, upd_same] at hmv; cases hmv
    have pld : pl ≠ tdx := fun z => by rw [z, upd_ne tdn, upd_same] at hpl; cases hpl
    have hmv1 : G1 mv = none := by rw [upd_ne mvt, upd_ne mvd] at hmv; exact hmv
    have hpl1 : G1 pl = none := by rw [upd_ne plt, upd_ne pld] at hpl; exact hpl
    have pmv : p ≠ mv := ne_of_none b1 hmv1
    have ppl : p ≠ pl := ne_of_none b1 hpl1
    have pt : p ≠ t := (tG1 _ _ b1).1
    have nmv : H0 mv = none := b2.free hmv1
    have npl : H0 pl = none := b2.free hpl1
    have nt : H0 t = none := b2.free ht
    refine ⟨_, rfl, p, CR, dx, _, rfl, k13 _ _ b1, T.clR, T.nTrack, (by show 1 < 1000; decide), ?_⟩
    have e1 : upd G3 p (.ins CR dx (putF "track" (.ref t) (putF "subs" (.ref sd) []))) p = some (.ins CR dx (putF "track" (.ref t) (putF "subs" (.ref sd) []))) := upd_same
    have e4 : Same H0 (upd G3 p (.ins CR dx (putF "track" (.ref t) (putF "subs" (.ref sd) [])))) := same_in (b2.trans k13) np
    have e5 : upd G3 p (.ins CR dx (putF "track" (.ref t) (putF "subs" (.ref sd) []))) mv = some (.lst []) := by rw [upd_ne (Ne.symm pmv)]; exact hmv3
    have e6 : upd G3 p (.ins CR dx (putF "track" (.ref t) (putF "subs" (.ref sd) []))) pl = some (.dK (envD begN)) := by rw [upd_ne (Ne.symm ppl)]; exact hpl3
    have e8 : upd G3 p (.ins CR dx (putF "track" (.ref t) (putF "subs" (.ref sd) []))) sd = some (.dK (putAllK [] (ts.map (·.2)))) := by rw [upd_ne (Ne.symm psd)]; exact k13 _ _ bsd
    have spl : sd ≠ pl := ne_of_none bsd hpl1
    have e7 : upd G3 p (.ins CR dx (putF "track" (.ref t) (putF "subs" (.ref sd) []))) t = some (.ins CT tdx (fT mv pl 0)) := by rw [upd_ne (Ne.symm pt)]; exact ht3
    generalize upd G3 p (.ins CR dx (putF "track" (.ref t) (putF "subs" (.ref sd) []))) = G4 at e1 e4 e5 e6 e7 e8
    -- walks
    refine ⟨_, rfl, _, _, _, _, rfl, rfl, e4.sqT ht0, rfl, fun dn hdn x dw hx hdw hne => ⟨x, dw, b, dn, false, rfl, upd_same, rfl, (by show 1 ≤ sizeLine; decide), fun wk hwk => ?_⟩⟩
    have f0 : Same G4 (upd G4 dn (.dK [])) := same_upd hdn _
    have f1 : Same (upd G4 dn (.dK [])) (upd (upd (upd (upd G4 dn (.dK [])) dw (.own x)) x (.ins CW dw [])) x (.ins CW dw (fW b dn false 0 "" 0 0))) := same_in (same_in (same_upd hdw _) hx) hx
    have f2 : (upd (upd (upd (upd G4 dn (.dK [])) dw (.own x)) x (.ins CW dw [])) x (.ins CW dw (fW b dn false 0 "" 0 0))) x = some (.ins CW dw (fW b dn false 0 "" 0 0)) := upd_same
    have f3 := f1 _ _ (upd_same (H := G4) (a := dn) (o := .dK []))
    generalize (upd (upd (upd (upd G4 dn (.dK [])) dw (.own x)) x (.ins CW dw [])) x (.ins CW dw (fW b dn false 0 "" 0 0))) = G5 at f1 f2 f3 hwk
    have f4 := f0.trans f1
    have g1 := f4 _ _ e1
    refine ⟨_, rfl, p, CR, dx, _, rfl, same_upd hwk _ _ _ g1, T.clR, T.nWalks, (by show 2 < 1000; decide), ?_⟩
    obtain ⟨i1, i2, i3⟩ := stp (o := .lst [.ref x]) (fs' := putF "walks" (.ref wk) (putF "track" (.ref t) (putF "subs" (.ref sd) []))) g1 hwk
    have i4 : Same H0 (upd (upd G5 wk (.lst [.ref x])) p (.ins CR dx (putF "walks" (.ref wk) (putF "track" (.ref t) (putF "subs" (.ref sd) []))))) := fun b u e => i3 b u (ne_of_none e np) (f4 b u (e4 b u e))
    have px : p ≠ x := fun e => by rw [← e] at f2; rw [g1] at f2; cases f2
    have pdn : p ≠ dn := ne_of_none e1 hdn
    have j1 := i3 mv _ (Ne.symm pmv) (f4 _ _ e5)
    have j2 := i3 pl _ (Ne.symm ppl) (f4 _ _ e6)
    have j3 := i3 x _ (Ne.symm px) f2
    have j4 := i3 dn _ (Ne.symm pdn) f3
    have j6 := i3 sd _ (Ne.symm psd) (f4 _ _ e8)
    have sdn : sd ≠ dn := ne_of_none e8 hdn
    have j5 := i3 t _ (Ne.symm pt) (f4 _ _ e7)
    have tx : t ≠ x := ne_of_none (f0 _ _ e7) hx
    have mw : mv ≠ wk := ne_of_none (f4 _ _ e5) hwk
    have pd : pl ≠ dn := ne_of_none e6 hdn
    refine q _ ⟨p, dx, sd, t, tdx, mv, pl, wk, [x], [dn]⟩ ?_ rfl
    refine ⟨i4, i1, j5, ⟨[], j1, True.intro⟩, j2, rfl, i2, ⟨⟨b, dw, dn, j3, rfl, hb, pok.1, Nat.zero_le _, Int.le_refl _, (show (0 : Int) ≤ 1000000 by decide)⟩, True.intro⟩, ⟨⟨j4, fun p hp => by simp at hp, Nat.zero_le _⟩, True.intro⟩, ⟨Nat.le_refl _, (show 0 ≤ 2000 by decide), Nat.le_refl _, Nat.le_refl _⟩, np, nt, nmv, npl, ?_, ?_, ?_, by simp, by simp, by simpa using px, by simpa using tx, pt, by simpa using pd, mw, ⟨_, j6, ?_⟩, spl, by simpa using sdn⟩
    · exact (e4.trans f4).free hwk
    · intro a ha
      obtain rfl : a = x := by simpa using ha
      exact (e4.trans f0).free hx
    · intro a ha
      obtain rfl : a = dn := by simpa using ha
      exact e4.free hdn
    · have et : (List.zipWith (fun (sb : Sub) x => ((Sum.inr sb.name : Key), x)) pr.subs xs).take i = List.zipWith (fun (sb : Sub) x => ((Sum.inr sb.name : Key), x)) pr.subs xs := List.take_of_length_le (by rw [List.length_zipWith]; (first | lia | omega))
      rw [tz, et]
      exact subD_of hxs pok.2.2

noncomputable def Told (K : PySem.W.Frag) (H H' : Hp) (t : Addr) (r : List (List V) × PyData) : Prop := ∃ m e ts, H' t = some (.tup [.ref m, e]) ∧ H' m = some (.lst (ts.map V.ref)) ∧ MvAt H' ts r.1 ∧ Rp K H' e r.2 ∧ H m = none ∧ H t = none
noncomputable def spRun (k : Nat) (K : PySem.W.Frag) : Sp := fun vs H Q _ => ∃ v pr, vs = [v] ∧ Rp K H v pr.dat ∧ pr.ok k ∧ runN 4001 (S0 pr) ≠ .bad ∧ ∀ t H', Same H H' → Told K H H' t (runP pr) → Q (.ref t) H'
theorem scRun : FnScope ["program", "run", "stop"] ["program"] (defScope sRun) := ⟨rfl, rfl, rfl, by decide +kernel, rfl, by decide +kernel, by decide +kernel⟩
theorem ok_run (T : RunT K mg CR CW CT) (S : StopT P w K mg base C fI fd) (CC : CatchC K mg "Stop" C) (hm : PySem.W.mroIn K C (.ref C) = some true) (MR : Mc P w K mg base "Run" CR 3 ["self", "program"] (spRunI k K CR CW CT)) (MG : Mt P w K mg base CR "go" (k + 9) ["self"] (spGo k K C CR CW CT))
    (F : Fun K "run_plainly" "run_plainly" sRun f fd') : FnOk P w K mg base (CX1 P w) (k + 10) f fd' ["program"] (spRun k K) := by
  have nd := scRun.nd
  obtain ⟨fg, fdg, okg, mtg, clg, big⟩ := MG.ex
  refine F.ok1 scRun (fun vs H Q E h => ?_) (fun cdv A outer s H vs Q E hr h => ?_)
  · obtain ⟨v, pr, rfl, _⟩ := h
    rfl
  obtain ⟨v, pr, rfl, hv, pok, nb, q⟩ := h
  have hr4 : Room 4 _ := hr.mono (show 4 ≤ k + 9 by (first | lia | omega))
  refine ⟨_, (pss_cons (ps_set (i := 1) nd rfl (Or.inl rfl) (pf_make MR hr4 rfl (pass1 (E := E)) (pa_cons (pv 0) pa_nil)))
    (pss_cons (ps_tryAs (i := 2) rfl rfl rfl (px_meth0 (fun _ => pv 1) clg mtg okg hr big .nil) CC rfl nd rfl rfl (fun _ => pss_one (ps_ret (pe_tup (pa_cons (pe_fldK (K := K) rfl (pe_fldK (K := K) rfl (pv 1) rfl) rfl) (pa_cons (pe_xfld S.S (pv 2) rfl) pa_nil))))))
    (pss_one (ps_ret (pe_tup (pa_cons (pe_fld (pe_fld (pv 1) rfl) rfl) (pa_cons (pe_tup (pa_cons pe_str pa_nil)) pa_nil))))))), ?_⟩
  refine ⟨_, rfl, fun x dx hx hdx hne => ⟨H, x, dx, v, pr, rfl, same_in (same_upd hdx _) hx, hx, upd_same, hv, pok, fun H1 A1 R1 ep => ⟨rfl, ?_⟩⟩⟩
  have run1 := R1.run
  rw [ep] at run1
  refine ⟨_, rfl, _, _, _, rfl, run1, rfl, H, A1, S0 pr, 4001, by rw [ep]; rfl, R1, Nat.le_refl _, ?_⟩
  have fin : ∀ (S' : RS) (H2 : Hp) (A2 : RA) (c : Nat) (t : Addr) (e : V) (d : PyData), RunIn k K CR CW CT H H2 A2 S' c → Rp K H2 e d → H2 t = none → Told K H (upd H2 t (.tup [.ref A2.mv, e])) t (S'.moves, d) := fun S' H2 A2 c t e d R2 he ht => by
    obtain ⟨ts, m1, m2⟩ := R2.mv
    have s2 := same_upd ht (.tup [.ref A2.mv, e])
    exact ⟨A2.mv, e, ts, upd_same, s2 _ _ m1, m2.same s2, he.same s2, R2.nmv, R2.same.free ht⟩
  unfold runP at q
  cases e1 : runN 4001 (S0 pr) with
  | ok S' =>
    rw [e1] at q
    intro H2 A2 R2 ep2
    have run2 := R2.run
    rw [ep2, ep] at run2
    refine ⟨_, rfl, _, _, _, _, _, rfl, run2, T.clR, T.nTrack, rfl, _, _, _, _, _, rfl, R2.tr, T.clT, T.nMoves, rfl, (by show 1 ≤ sizeLine; decide), fun u hu => ⟨by show 2 ≤ sizeLine; decide, fun t ht => ?_⟩⟩
    have s3 := same_upd hu (.tup [.str "done"])
    exact q t _ ((R2.same.trans s3).trans (same_upd ht _)) (fin S' _ A2 _ t _ _ (R2.same' s3) (.tup (SqT.of upd_same) (.cons (.str _) .nil)) ht)
  | stop S' d =>
    rw [e1] at q
    intro dx2 v2 H2 A2 c R2 ep2 hdx2 hv2
    refine ⟨⟨C, rfl, hm⟩, fun e he => ?_⟩
    have s3 := same_upd he (ExcC e (.ref C) (some dx2))
    have R3 := R2.same' s3
    have run3 := R3.run
    rw [ep2, ep] at run3
    refine ⟨_, rfl, _, _, _, _, _, rfl, run3, T.clR, T.nTrack, rfl, _, _, _, _, _, rfl, R3.tr, T.clT, T.nMoves, rfl, _, rfl, e, dx2, _, v2, rfl, upd_same, (Ne.symm (ne_of_none hdx2 he)), s3 _ _ hdx2, rfl, (by show 2 ≤ sizeLine; decide), fun t ht => ?_⟩
    exact q t _ (R3.same.trans (same_upd ht _)) (fin S' _ A2 c t _ _ R3 (hv2.same s3) ht)
  | bad => exact absurd e1 nb
end
end Car

set_option maxHeartbeats 1000000
namespace L2
open PySem PySem.Spec PyProof.Rows
noncomputable def tMid (t u : TS) : TS := fun D σ H => ∃ N : St → Hp → Prop, t { D with nx := N } σ H ∧ ∀ σ' H', N σ' H' → u D σ' H'
theorem pss_mid {X : Cx} {st : Stmt} {rest : List Stmt} {t u : TS} (h1 : PS X st t) (h2 : PSs X rest u) : PSs X (st :: rest) (tMid t u) := by
  intro pins s σ H D I ⟨N, h, hN⟩
  refine wpAny_execs_cons (thn (h1 pins s σ H { D with nx := N } I h) fun f s1 q => ?_)
  cases f with
  | next =>
    obtain ⟨σ', H', I', q⟩ := q
    exact h2 pins s1 σ' H' D I' (hN σ' H' q)
  | ret v => exact q
  | brk => exact q
  | cont => exact q
theorem same_drop {H H' : Hp} {d : Addr} : Same (drop H d) (drop H' d) ↔ ∀ b o, b ≠ d → H b = some o → H' b = some o := by
  constructor
  · intro s b o hb e
    have := s b o (by rw [drop_ne hb]; exact e)
    rw [drop_ne hb] at this
    exact this
  · intro h b o e
    by_cases hb : b = d
    · rw [hb, drop_same] at e
      cases e
    · rw [drop_ne hb] at e ⊢
      exact h b o hb e
end L2
namespace L2
open PySem PySem.Spec PyProof.Rows
theorem drop_le {H : Hp} {d : Addr} : Same (drop H d) H := fun b o e => by
  by_cases hb : b = d
  · rw [hb, drop_same] at e; cases e
  · rw [drop_ne hb] at e; exact e
end L2
namespace Car
open PySem L2
theorem bt_max : bootBuiltins "max" = some (.builtin "max") := by decide +kernel
theorem bt_min : bootBuiltins "min" = some (.builtin "min") := by decide +kernel
theorem bt_list : bootBuiltins "list" = some (.type "list") := by decide +kernel
theorem bt_int : bootBuiltins "int" = some (.type "int") := by decide +kernel
theorem bt_sum : bootBuiltins "sum" = some (.builtin "sum") := by decide +kernel
structure LawT (mg : Str → Option Value) : Prop where
  len : mg "len" = none
  max : mg "max" = none
  min : mg "min" = none
  range : mg "range" = none
  isin : mg "isinstance" = none
  abs : mg "abs" = none
  tuple : mg "tuple" = none
  list : mg "list" = none
  bool : mg "bool" = none
  int : mg "int" = none
theorem at_mem {xs : List V} {i : Int} (h0 : 0 ≤ i) (h : i < (xs.length : Int)) : ∃ v, atI xs i = some v ∧ v ∈ xs := by
  have hlt : i.toNat < xs.length := by (first | lia | omega)
  refine ⟨xs[i.toNat], ?_, List.getElem_mem hlt⟩
  have := atI_nat (List.getElem?_eq_getElem hlt)
  rw [show ((i.toNat : Nat) : Int) = i by (first | lia | omega)] at this
  exact this
theorem mod_lt (n : Int) {m : Int} (h : 0 < m) : 0 ≤ n % m ∧ n % m < m := ⟨Int.emod_nonneg _ (by (first | lia | omega)), Int.emod_lt_of_pos _ h⟩
theorem _root_.L2.Same.drop {H H' : Hp} (s : Same H H') (d : Addr) : Same (L2.drop H d) (L2.drop H' d) := same_drop.mpr fun b o _ e => s b o e
section
variable {P : Program} {w : World} {K : PySem.W.Frag} {mg : Str → Option Value} {base : Heap} {f : Addr} {fd' : FuncData}
theorem Rps.ints {H : Hp} : ∀ ns : List Int, Rps K H (ns.map V.int) (ns.map PyData.int)
  | [] => .nil
  | n :: r => .cons (.int n) (Rps.ints r)
theorem canAll_int : ∀ ns : List Int, PyData.canLayAll0 (ns.map PyData.int) = true
  | [] => rfl
  | n :: r => by rw [List.map_cons, PyData.canLayAll0, canAll_int r]; rfl
theorem depthAll_int : ∀ ns : List Int, PyData.depthAll (ns.map PyData.int) = 0
  | [] => rfl
  | n :: r => by rw [List.map_cons, PyData.depthAll, depthAll_int r]; rfl
theorem shaped_ints (ns : List Int) : SeqAt.shaped (.list (ns.map PyData.int)) = true := by
  unfold SeqAt.shaped
  rw [PyData.canLay0, canAll_int, PyData.depth, depthAll_int]
  rfl
end
theorem bnd_err {i : Int} {d : PyData} (h : bnd i = .error d) : d = dBig ∧ ¬ (-1000000 ≤ i ∧ i ≤ 1000000) := by
  unfold bnd at h
  split at h
  · cases h
  · rename_i c
    cases h
    exact ⟨rfl, c⟩
mutual
theorem eqv_self : ∀ d : PyData, PyData.canLay0 d = true → PyData.eqv d d = true
  | .none, _ => by rw [PyData.eqv]
  | .bool b, _ => by rw [PyData.eqv]; simp
  | .int i, _ => by rw [PyData.eqv]; simp
  | .str x, _ => by rw [PyData.eqv]; simp
  | .list xs, h => by rw [PyData.canLay0] at h; rw [PyData.eqv]; exact eqvAll_self xs h
  | .tuple xs, h => by rw [PyData.canLay0] at h; rw [PyData.eqv]; exact eqvAll_self xs h
  | .dict _, h => by rw [PyData.canLay0] at h; cases h
theorem eqvAll_self : ∀ xs : List PyData, PyData.canLayAll0 xs = true → PyData.eqvAll xs xs = true
  | [], _ => by rw [PyData.eqvAll]
  | x :: r, h => by
    rw [PyData.canLayAll0, Bool.and_eq_true] at h
    rw [PyData.eqvAll, eqv_self x h.1, eqvAll_self r h.2]
    rfl
end
noncomputable def datV : V → PyData
  | .int i => .int i
  | .str x => .str x
  | .bl b => .bool b
  | _ => .none
noncomputable def mvD (m : List V) : PyData := .tuple (m.map datV)
noncomputable def scV : V → Bool
  | .int _ => true
  | .str x => PyData.strOk x
  | _ => false
theorem scV_rp {K : PySem.W.Frag} {H : Hp} : ∀ {v : V}, scV v = true → Rp K H v (datV v)
  | .int i, _ => .int i
  | .str x, _ => .str x
  | .non, h => by cases h
  | .bl _, h => by cases h
  | .byt _, h => by cases h
  | .flt _, h => by cases h
  | .ref _, h => by cases h
  | .ty _, h => by cases h
theorem scV_can : ∀ {v : V}, scV v = true → PyData.canLay0 (datV v) = true ∧ PyData.depth (datV v) = 0
  | .int i, _ => ⟨rfl, rfl⟩
  | .str x, h => ⟨by rw [datV, PyData.canLay0]; exact h, rfl⟩
  | .non, h => by cases h
  | .bl _, h => by cases h
  | .byt _, h => by cases h
  | .flt _, h => by cases h
  | .ref _, h => by cases h
  | .ty _, h => by cases h
theorem scVs_rp {K : PySem.W.Frag} {H : Hp} : ∀ {m : List V}, m.all scV = true → Rps K H m (m.map datV)
  | [], _ => .nil
  | v :: r, h => by
    rw [List.all_cons, Bool.and_eq_true] at h
    exact .cons (scV_rp h.1) (scVs_rp h.2)
theorem scVs_can : ∀ {m : List V}, m.all scV = true → PyData.canLayAll0 (m.map datV) = true ∧ PyData.depthAll (m.map datV) = 0
  | [], _ => ⟨rfl, rfl⟩
  | v :: r, h => by
    rw [List.all_cons, Bool.and_eq_true] at h
    obtain ⟨a, b⟩ := scV_can h.1
    obtain ⟨c, d⟩ := scVs_can h.2
    rw [List.map_cons, PyData.canLayAll0, PyData.depthAll, a, b, c, d]
    exact ⟨rfl, rfl⟩
theorem mvs_can : ∀ {ms : List (List V)}, (∀ m ∈ ms, m.all scV = true) → PyData.canLayAll0 (ms.map mvD) = true ∧ PyData.depthAll (ms.map mvD) ≤ 1
  | [], _ => ⟨rfl, by decide⟩
  | m :: r, h => by
    obtain ⟨a, b⟩ := scVs_can (h m List.mem_cons_self)
    obtain ⟨c, d⟩ := mvs_can (ms := r) fun x hx => h x (List.mem_cons_of_mem _ hx)
    rw [List.map_cons, PyData.canLayAll0, PyData.depthAll, mvD, PyData.canLay0, PyData.depth, a, b, c]
    exact ⟨rfl, by (first | lia | omega)⟩
theorem mvs_rp {K : PySem.W.Frag} {H : Hp} : ∀ {ts : List Addr} {ms : List (List V)}, (∀ m ∈ ms, m.all scV = true) → MvAt H ts ms → Rps K H (ts.map V.ref) (ms.map mvD)
  | [], [], _, _ => .nil
  | t :: ts, m :: ms, h, ⟨a, b⟩ => .cons (.tup (SqT.of a) (scVs_rp (h m List.mem_cons_self))) (mvs_rp (fun x hx => h x (List.mem_cons_of_mem _ hx)) b)
noncomputable def resD (r : List (List V) × PyData) : PyData := .tuple [.list (r.1.map mvD), r.2]
noncomputable def EndOk (d : PyData) : Prop := PyData.canLay0 d = true ∧ PyData.depth d ≤ 10
theorem resD_shaped {r : List (List V) × PyData} (h : ∀ m ∈ r.1, m.all scV = true) (hd : EndOk r.2) : SeqAt.shaped (resD r) = true ∧ PyData.eqv (resD r) (resD r) = true := by
  obtain ⟨a, b⟩ := mvs_can h
  obtain ⟨c, d⟩ := hd
  have e : PyData.canLay0 (resD r) = true := by
    rw [resD, PyData.canLay0, PyData.canLayAll0, PyData.canLayAll0, PyData.canLayAll0, PyData.canLay0, a, c]
    rfl
  refine ⟨?_, eqv_self _ e⟩
  unfold SeqAt.shaped
  rw [e, Bool.true_and]
  refine decide_eq_true ?_
  rw [resD, PyData.depth, PyData.depthAll, PyData.depthAll, PyData.depthAll, PyData.depth]
  (first | lia | omega)
theorem oks_append {k : Nat} : ∀ {a b : List Stm}, oks k a → oks k b → oks k (a ++ b)
  | [], _, _, h => h
  | s :: r, b, h, h2 => by
    rw [oks] at h
    rw [List.cons_append, oks]
    exact ⟨h.1, oks_append h.2 h2⟩
end Car
namespace L2
open PySem PySem.Spec PyProof.Rows
noncomputable def new (H H' : Hp) : Hp := fun b => if (H b).isSome = true then none else H' b
theorem new_at {H H' : Hp} {t : Addr} {o : HO} (h : H t = none) (e : H' t = some o) : new H H' t = some o := by
  unfold new
  rw [h]
  exact e
theorem new_inv {H H' : Hp} {t : Addr} {o : HO} (e : new H H' t = some o) : H t = none ∧ H' t = some o := by
  unfold new at e
  cases h : H t with
  | none => rw [h] at e; exact ⟨rfl, e⟩
  | some u => rw [h] at e; cases e
theorem new_le {H H' : Hp} : Same (new H H') H' := fun b o e => (new_inv e).2
theorem new_drop {H H' : Hp} {D : Addr} {o : HO} (h : H D = some o) : Same (new H H') (drop H' D) := fun b u e => by
  have n := (new_inv e).1
  have nb : b ≠ D := fun z => by rw [z, h] at n; cases n
  rw [drop_ne nb]
  exact (new_inv e).2
theorem drop_upd_same {H : Hp} {d : Addr} {o : HO} : drop (upd H d o) d = drop H d := by
  funext b
  by_cases h : b = d
  · rw [h, drop_same, drop_same]
  · rw [drop_ne h, drop_ne h, upd_ne h]
end L2
namespace L2
open PySem PySem.Spec PyProof.Rows
section
variable {X : Cx} {pos : Pos}
end
end L2

set_option maxHeartbeats 1000000
namespace L2
open PySem PySem.Spec PyProof.Rows
theorem pt_imp {X : Cx} {e : Expr} {t t' : TT} (h : PT X e t) (i : ∀ σ H Q, t' σ H Q → t σ H Q) : PT X e t' := fun pins s σ H Q I hw => h pins s σ H Q I (i σ H Q hw)
end L2
namespace L2
open PySem PySem.Spec PySem.SeqAt PyProof.Rows
section
variable {X : Cx}
noncomputable def rInD (K : PySem.W.Frag) : R2 := fun x y H Q => ∃ d es, Rp K H x d ∧ Rp K H y (.list es) ∧ SeqAt.shaped (.list es) = true ∧ SeqAt.shaped d = true ∧ Q (.bl (es.any fun z => PyData.eqv z d)) H
theorem op_inD (hu : X.A.units + 65 < cLine) : OpR X (compareOp .In) (rInD X.K) := by
  intro pins s σ H x y v u Q I rx ry h
  obtain ⟨d, e, hd, he, se, sd, q⟩ := h
  obtain ⟨as, ra⟩ := hd.reads I rx
  obtain ⟨bs, rb⟩ := he.reads I ry
  exact in_list_reads rb ra (canLay_of_shaped se) (canLay_of_shaped sd) (room_in_shaped sd hu) ⟨.bl _, H, I, rfl, q⟩
end
end L2

set_option maxHeartbeats 1000000
namespace Car
open PySem L2
structure Ev where
  cnt : Nat
  moves : List (List V)
  pl : Nm
  env : Nm
inductive EvR where
  | ok (e : Ev)
  | stop (e : Ev) (d : PyData)
  | bad
noncomputable def EvR.bind (r : EvR) (f : Ev → EvR) : EvR := match r with
  | .ok e => f e
  | .stop e d => .stop e d
  | .bad => .bad
noncomputable def iter (f : Ev → EvR) (x : Str) : Nat → Int → Ev → EvR
  | 0, _, e => .ok e
  | n + 1, t, e => if e.cnt = 2000 then .stop e dLong else (f { e with cnt := e.cnt + 1, env := put e.env x t }).bind (iter f x n (t + 1))
noncomputable def back (e : Ev) : EvR → EvR
  | .ok e' => .ok { e' with env := e.env }
  | .stop e' d => .stop e' d
  | .bad => .bad
noncomputable def exC (subs : List Sub) (g : Option (List Stm → Ev → EvR)) (x : Str) (es : List Ex) (e : Ev) : EvR := match g with
  | none => .stop e dDeep
  | some f => match subOf x subs with
    | none => .bad
    | some sb => match recks (look e.env) es with
      | .error d => .stop e d
      | .ok ns => back e (f sb.body { e with env := putAll [] (sb.names.zip ns) })
mutual
noncomputable def exS (subs : List Sub) (g : Option (List Stm → Ev → EvR)) : Stm → Ev → EvR
  | .hold ex, e => match reck (look e.env) ex with
    | .error d => .stop e d
    | .ok i => .ok { e with moves := e.moves ++ [[.str "hold", .int i]] }
  | .move k a ex y, e => match reck (look e.env) ex with
    | .error d => .stop e d
    | .ok i => if y = true then match bnd ((look e.pl a).getD 0 + i) with
        | .error d => .stop e d
        | .ok j => .ok { e with pl := put e.pl a j, moves := e.moves ++ [[.str k, .str a, .int j]] }
      else .ok { e with pl := put e.pl a i, moves := e.moves ++ [[.str k, .str a, .int i]] }
  | .lt x ex, e => match reck (look e.env) ex with
    | .error d => .stop e d
    | .ok i => .ok { e with env := put e.env x i }
  | .call x es, e => exC subs g x es e
  | .times x ex b, e => match reck (look e.env) ex with
    | .error d => .stop e d
    | .ok i => iter (exB subs g b) x i.toNat 0 e
  | .iff s ex fx b c, e => match reck (look e.env) ex with
    | .error d => .stop e d
    | .ok i => match reck (look e.env) fx with
      | .error d => .stop e d
      | .ok j => if holdsE s i j = true then exB subs g b e else exB subs g c e
noncomputable def exB (subs : List Sub) (g : Option (List Stm → Ev → EvR)) : List Stm → Ev → EvR
  | [], e => .ok e
  | s :: r, e => if e.cnt = 2000 then .stop e dLong else (exS subs g s { e with cnt := e.cnt + 1 }).bind (exB subs g r)
end
noncomputable def exD (subs : List Sub) : Nat → List Stm → Ev → EvR
  | 0 => exB subs none
  | d + 1 => exB subs (some (exD subs d))
noncomputable def Ev.rs (e : Ev) (envs : List Nm) (sub : List Sub) (stk : List Wk) : RS := ⟨e.cnt, e.moves, e.pl, envs, stk, sub⟩
noncomputable def evRes : EvR → List (List V) × PyData
  | .ok e => (e.moves, dDone)
  | .stop e d => (e.moves, d)
  | .bad => ([], .none)
noncomputable def Kp (fr : Nat) (envs envs' : List Nm) : Prop := envs.length ≤ envs'.length ∧ ∀ j, j ≠ fr → j < envs.length → envs'.getD j [] = envs.getD j []
theorem Kp.rfl' {fr : Nat} {a : List Nm} : Kp fr a a := ⟨Nat.le_refl _, fun _ _ _ => rfl⟩
theorem Kp.trans {fr : Nat} {a b c : List Nm} (h : Kp fr a b) (h' : Kp fr b c) : Kp fr a c := ⟨Nat.le_trans h.1 h'.1, fun j hj hl => by rw [h'.2 j hj (Nat.lt_of_lt_of_le hl h.1), h.2 j hj hl]⟩
theorem Kp.set {fr : Nat} {a : List Nm} {x : Nm} : Kp fr a (a.set fr x) := ⟨by rw [List.length_set]; exact Nat.le_refl _, fun j hj hl => by simp [List.getD_eq_getElem?_getD, List.getElem?_set_ne (Ne.symm hj)]⟩
theorem getD_set {fr : Nat} {a : List Nm} {x : Nm} (h : fr < a.length) : (a.set fr x).getD fr [] = x := by simp [List.getD_eq_getElem?_getD, List.getElem?_set_self h]
noncomputable def Comes (sub : List Sub) (fr : Nat) (envs : List Nm) (S : RS) (on : List Wk) : EvR → Prop
  | .ok e => ∃ (k : Nat) (envs' : List Nm), (∀ m, runN (k + m) S = runN m (e.rs envs' sub on)) ∧ envs'.getD fr [] = e.env ∧ Kp fr envs envs'
  | .stop e d => ∃ k S', S'.moves = e.moves ∧ ∀ m, runN (k + m) S = .stop S' d
  | .bad => ∃ k, ∀ m, runN (k + m) S = .bad
section
variable {sub : List Sub} {fr : Nat}
theorem Comes.after {envs envs1 : List Nm} {S S1 : RS} {on : List Wk} {k : Nat} (h : ∀ m, runN (k + m) S = runN m S1) (hk : Kp fr envs envs1) : ∀ {r : EvR}, Comes sub fr envs1 S1 on r → Comes sub fr envs S on r
  | .ok e, ⟨k1, v, h1, h2, h3⟩ => ⟨k + k1, v, fun m => by rw [Nat.add_assoc, h, h1], h2, hk.trans h3⟩
  | .stop e d, ⟨k1, S', e1, h1⟩ => ⟨k + k1, S', e1, fun m => by rw [Nat.add_assoc, h, h1]⟩
  | .bad, ⟨k1, h1⟩ => ⟨k + k1, fun m => by rw [Nat.add_assoc, h, h1]⟩
theorem Comes.then {envs : List Nm} {S : RS} {on on' : List Wk} {f : Ev → EvR} : ∀ {r : EvR}, Comes sub fr envs S on r → (∀ c mv pl (envs' : List Nm), r = .ok ⟨c, mv, pl, envs'.getD fr []⟩ → Kp fr envs envs' → Comes sub fr envs' ⟨c, mv, pl, envs', on, sub⟩ on' (f ⟨c, mv, pl, envs'.getD fr []⟩)) → Comes sub fr envs S on' (r.bind f)
  | .ok ⟨c, mv, pl, _⟩, ⟨k, v, h, rfl, hk⟩, g => (g c mv pl v rfl hk).after h hk
  | .stop e d, h, _ => h
  | .bad, h, _ => h
theorem one_step {S : RS} {w : Wk} {r : List Wk} (hs : S.stk = w :: r) {S' : RS} (h : stepW S w r = .ok S') : ∀ m, runN (1 + m) S = runN m S' := fun m => by
  rw [Nat.add_comm, runN, hs]
  show (match stepW S w r with | .ok S' => runN m S' | .stop S' d => .stop S' d | .bad => .bad) = _
  rw [h]
theorem one_stop {S : RS} {w : Wk} {r : List Wk} (hs : S.stk = w :: r) {S' : RS} {d : PyData} (h : stepW S w r = .stop S' d) : ∀ m, runN (1 + m) S = .stop S' d := fun m => by
  rw [Nat.add_comm, runN, hs]
  show (match stepW S w r with | .ok S' => runN m S' | .stop S' d => .stop S' d | .bad => .bad) = _
  rw [h]
theorem one_bad {S : RS} {w : Wk} {r : List Wk} (hs : S.stk = w :: r) (h : stepW S w r = .bad) : ∀ m, runN (1 + m) S = .bad := fun m => by
  rw [Nat.add_comm, runN, hs]
  show (match stepW S w r with | .ok S' => runN m S' | .stop S' d => .stop S' d | .bad => .bad) = _
  rw [h]
theorem walk_goes {c : Nat} {mv : List (List V)} {pl : Nm} {envs : List Nm} {w : Wk} {r : List Wk} (h : w.body[w.at_]? = none) (ht : ¬ w.turn < w.turns) : ∀ m, runN (1 + m) ⟨c, mv, pl, envs, w :: r, sub⟩ = runN m ⟨c, mv, pl, envs, r, sub⟩ :=
  one_step rfl (by
    unfold stepW
    rw [h]
    show (if w.turn < w.turns then _ else _) = _
    rw [if_neg ht])
noncomputable def Oc (d : Nat) (l : List Wk) : Prop := (l.filter (·.oc)).length + d = 10
theorem Oc.at_ {d : Nat} {w w' : Wk} {r : List Wk} (h : Oc d (w :: r)) (e : w'.oc = w.oc) : Oc d (w' :: r) := by
  unfold Oc at h ⊢
  rw [List.filter_cons] at h ⊢
  rw [e]
  by_cases c : w.oc = true
  · rw [if_pos c] at h ⊢
    exact h
  · rw [if_neg c] at h ⊢
    exact h
theorem Oc.on {d : Nat} {w w1 w' : Wk} {r : List Wk} (h : Oc d (w :: r)) (e : w'.oc = w.oc) (e1 : w1.oc = false) : Oc d (w1 :: w' :: r) := by
  have := h.at_ e
  unfold Oc at this ⊢
  rw [List.filter_cons, if_neg (by rw [e1]; decide)]
  exact this
theorem Comes.gone {envs : List Nm} {S : RS} {w : Wk} {on : List Wk} (h : w.body[w.at_]? = none) (ht : ¬ w.turn < w.turns) {r : EvR} (hr : Comes sub fr envs S (w :: on) r) : Comes sub fr envs S on r := by
  have := Comes.then (f := .ok) (on' := on) hr fun c mv pl v _ _ => ⟨1, v, walk_goes h ht, rfl, Kp.rfl'⟩
  cases r with
  | ok e => exact this
  | stop e d => exact this
  | bad => exact this
variable {k : Nat}
noncomputable def Calls (sub : List Sub) (k d : Nat) (g : Option (List Stm → Ev → EvR)) : Prop := match g with
  | none => d = 0
  | some f => 0 < d ∧ ∀ (b : List Stm) (c : Nat) (mv : List (List V)) (pl : Nm) (envs : List Nm) (on : List Wk) (nm : Nm), oks k b → Oc d on → Comes sub envs.length (envs ++ [nm]) ⟨c, mv, pl, envs ++ [nm], ⟨b, envs.length, true, 0, "", 0, 0⟩ :: on, sub⟩ on (f b ⟨c, mv, pl, nm⟩)
theorem subOf_mem {x : Str} : ∀ {l : List Sub} {sb : Sub}, subOf x l = some sb → sb ∈ l
  | [], _, h => by cases h
  | s :: r, sb, h => by
    rw [subOf] at h
    cases h1 : subOf x r with
    | some t => rw [h1] at h; cases h; exact List.mem_cons_of_mem _ (subOf_mem h1)
    | none =>
      rw [h1] at h
      by_cases e : s.name = x
      · have h' : (if s.name = x then some s else none) = some sb := h
        rw [if_pos e] at h'
        cases h'
        exact List.mem_cons_self
      · have h' : (if s.name = x then some s else none) = some sb := h
        rw [if_neg e] at h'
        cases h'
variable {d : Nat} {g : Option (List Stm → Ev → EvR)}
theorem Comes.back {c : Nat} {mv : List (List V)} {pl : Nm} {envs : List Nm} {x : Nm} {S : RS} {on : List Wk} (hl : fr < envs.length) : ∀ {r : EvR}, Comes sub envs.length (envs ++ [x]) S on r → Comes sub fr envs S on (Car.back ⟨c, mv, pl, envs.getD fr []⟩ r)
  | .ok e, ⟨k1, v, h1, h2, h3⟩ => by
    have hn : fr ≠ envs.length := Nat.ne_of_lt hl
    have lt : ∀ j, j < envs.length → v.getD j [] = envs.getD j [] := fun j hj => by
      rw [h3.2 j (Nat.ne_of_lt hj) (by rw [List.length_append]; (first | lia | omega))]
      simp [List.getD_eq_getElem?_getD, List.getElem?_append_left hj]
    have hle := h3.1
    rw [List.length_append] at hle
    exact ⟨k1, v, h1, lt _ hl, ⟨by (first | lia | omega), fun j _ hj => lt j hj⟩⟩
  | .stop e d, h => h
  | .bad, h => h
theorem stepC {c : Nat} {mv : List (List V)} {pl : Nm} {envs : List Nm} {w : Wk} {r : List Wk} {s : Stm} (hb : w.body[w.at_]? = some s) (hf : w.fr = fr) (hc : c ≠ 2000) : stepW ⟨c, mv, pl, envs, w :: r, sub⟩ w r = doS ⟨c + 1, mv, pl, envs, { w with at_ := w.at_ + 1 } :: r, sub⟩ fr s := by
  unfold stepW
  rw [hb, hf]
  show (if c = 2000 then _ else _) = _
  rw [if_neg hc]
mutual
theorem comesS (hg : Calls sub k d g) (ho : ∀ s ∈ sub, oks k s.body) {c : Nat} {mv : List (List V)} {pl : Nm} {envs : List Nm} {w : Wk} {r : List Wk} (hf : w.fr = fr) (hl : fr < envs.length) (hd : Oc d (w :: r)) : ∀ {s : Stm}, s.ok k → w.body[w.at_]? = some s → c ≠ 2000 → Comes sub fr envs ⟨c, mv, pl, envs, w :: r, sub⟩ ({ w with at_ := w.at_ + 1 } :: r) (exS sub g s ⟨c + 1, mv, pl, envs.getD fr []⟩)
  | .hold ex, ok, hb, hc => by
    have st := stepC (sub := sub) (mv := mv) (pl := pl) (envs := envs) (r := r) hb hf hc
    rw [doS] at st
    rw [exS]
    have st' : stepW _ w r = match reck (look (envs.getD fr [])) ex with | .error d => .stop ⟨c + 1, mv, pl, envs, { w with at_ := w.at_ + 1 } :: r, sub⟩ d | .ok i => .ok (RS.say ⟨c + 1, mv, pl, envs, { w with at_ := w.at_ + 1 } :: r, sub⟩ [.str "hold", .int i]) := st
    show Comes _ _ _ _ _ (match reck (look (envs.getD fr [])) ex with | .error d => _ | .ok i => _)
    cases h : reck (look (envs.getD fr [])) ex with
    | error d => rw [h] at st'; exact ⟨1, _, rfl, one_stop rfl st'⟩
    | ok i => rw [h] at st'; exact ⟨1, envs, one_step rfl st', rfl, Kp.rfl'⟩
  | .lt x ex, ok, hb, hc => by
    have st := stepC (sub := sub) (mv := mv) (pl := pl) (envs := envs) (r := r) hb hf hc
    rw [doS] at st
    rw [exS]
    have st' : stepW _ w r = match reck (look (envs.getD fr [])) ex with | .error d => .stop ⟨c + 1, mv, pl, envs, { w with at_ := w.at_ + 1 } :: r, sub⟩ d | .ok i => .ok (RS.let_ ⟨c + 1, mv, pl, envs, { w with at_ := w.at_ + 1 } :: r, sub⟩ fr x i) := st
    show Comes _ _ _ _ _ (match reck (look (envs.getD fr [])) ex with | .error d => _ | .ok i => _)
    cases h : reck (look (envs.getD fr [])) ex with
    | error d => rw [h] at st'; exact ⟨1, _, rfl, one_stop rfl st'⟩
    | ok i => rw [h] at st'; exact ⟨1, envs.set fr (put (envs.getD fr []) x i), one_step rfl st', getD_set hl, Kp.set⟩
  | .move kd a ex y, ok, hb, hc => by
    have st := stepC (sub := sub) (mv := mv) (pl := pl) (envs := envs) (r := r) hb hf hc
    rw [doS] at st
    rw [exS]
    show Comes _ _ _ _ _ (match reck (look (envs.getD fr [])) ex with | .error d => _ | .ok i => _)
    have st' : stepW _ w r = match reck (look (envs.getD fr [])) ex with | .error d => .stop ⟨c + 1, mv, pl, envs, { w with at_ := w.at_ + 1 } :: r, sub⟩ d | .ok i => (if y = true then match bnd ((look pl a).getD 0 + i) with
        | .error d => .stop ⟨c + 1, mv, pl, envs, { w with at_ := w.at_ + 1 } :: r, sub⟩ d
        | .ok j => .ok ((RS.put ⟨c + 1, mv, pl, envs, { w with at_ := w.at_ + 1 } :: r, sub⟩ a j).say [.str kd, .str a, .int j])
      else .ok ((RS.put ⟨c + 1, mv, pl, envs, { w with at_ := w.at_ + 1 } :: r, sub⟩ a i).say [.str kd, .str a, .int i])) := st
    cases h : reck (look (envs.getD fr [])) ex with
    | error d => rw [h] at st'; exact ⟨1, _, rfl, one_stop rfl st'⟩
    | ok i =>
      rw [h] at st'
      cases y with
      | false => exact ⟨1, envs, one_step rfl st', rfl, Kp.rfl'⟩
      | true =>
        have st2 : stepW _ w r = match bnd ((look pl a).getD 0 + i) with
          | .error d => .stop ⟨c + 1, mv, pl, envs, { w with at_ := w.at_ + 1 } :: r, sub⟩ d
          | .ok j => .ok ((RS.put ⟨c + 1, mv, pl, envs, { w with at_ := w.at_ + 1 } :: r, sub⟩ a j).say [.str kd, .str a, .int j]) := st'
        show Comes _ _ _ _ _ (match bnd ((look pl a).getD 0 + i) with | .error d => _ | .ok j => _)
        cases h2 : bnd ((look pl a).getD 0 + i) with
        | error d => rw [h2] at st2; exact ⟨1, _, rfl, one_stop rfl st2⟩
        | ok j => rw [h2] at st2; exact ⟨1, envs, one_step rfl st2, rfl, Kp.rfl'⟩
  | .call x es, ok, hb, hc => by
    have st := stepC (sub := sub) (mv := mv) (pl := pl) (envs := envs) (r := r) hb hf hc
    rw [doS] at st
    have ho' : Oc d ({ w with at_ := w.at_ + 1 } :: r) := hd.at_ rfl
    unfold callS at st
    rw [exS]
    cases g with
    | none =>
      have d0 : d = 0 := hg
      rw [if_pos (by unfold Oc at ho'; show 10 ≤ (List.filter (·.oc) ({ w with at_ := w.at_ + 1 } :: r)).length; (first | lia | omega))] at st
      exact ⟨1, _, rfl, one_stop rfl st⟩
    | some f =>
      obtain ⟨d0, hg⟩ := hg
      rw [if_neg (by unfold Oc at ho'; show ¬ 10 ≤ (List.filter (·.oc) ({ w with at_ := w.at_ + 1 } :: r)).length; (first | lia | omega))] at st
      have st' : stepW _ w r = match subOf x sub with
        | none => .bad
        | some sb => match recks (look (envs.getD fr [])) es with
          | .error d => .stop ⟨c + 1, mv, pl, envs, { w with at_ := w.at_ + 1 } :: r, sub⟩ d
          | .ok ns => .ok ⟨c + 1, mv, pl, envs ++ [putAll [] (sb.names.zip ns)], ⟨sb.body, envs.length, true, 0, "", 0, 0⟩ :: { w with at_ := w.at_ + 1 } :: r, sub⟩ := st
      unfold exC
      show Comes _ _ _ _ _ (match subOf x sub with | none => .bad | some sb => match recks (look (envs.getD fr [])) es with | .error d => .stop ⟨c + 1, mv, pl, envs.getD fr []⟩ d | .ok ns => back _ (f sb.body ⟨c + 1, mv, pl, putAll [] (sb.names.zip ns)⟩))
      cases h1 : subOf x sub with
      | none => rw [h1] at st'; exact ⟨1, one_bad rfl st'⟩
      | some sb =>
        rw [h1] at st'
        cases h2 : recks (look (envs.getD fr [])) es with
        | error dd => rw [h2] at st'; exact ⟨1, _, rfl, one_stop rfl st'⟩
        | ok ns =>
          rw [h2] at st'
          refine Comes.after (envs1 := envs) (one_step rfl st') Kp.rfl' ?_
          exact (hg sb.body (c + 1) mv pl envs ({ w with at_ := w.at_ + 1 } :: r) (putAll [] (sb.names.zip ns)) (ho sb (subOf_mem h1)) ho').back hl
  | .times x ex b, ok, hb, hc => by
    rw [Stm.ok] at ok
    have st := stepC (sub := sub) (mv := mv) (pl := pl) (envs := envs) (r := r) hb hf hc
    rw [doS] at st
    rw [exS]
    have st' : stepW _ w r = match reck (look (envs.getD fr [])) ex with | .error d => .stop ⟨c + 1, mv, pl, envs, { w with at_ := w.at_ + 1 } :: r, sub⟩ d | .ok i => .ok ⟨c + 1, mv, pl, envs, ⟨b, fr, false, b.length, x, 0, i⟩ :: { w with at_ := w.at_ + 1 } :: r, sub⟩ := st
    show Comes _ _ _ _ _ (match reck (look (envs.getD fr [])) ex with | .error d => _ | .ok i => _)
    cases h : reck (look (envs.getD fr [])) ex with
    | error d => rw [h] at st'; exact ⟨1, _, rfl, one_stop rfl st'⟩
    | ok i =>
      rw [h] at st'
      refine Comes.after (envs1 := envs) (one_step rfl st') Kp.rfl' ?_
      have turns : ∀ (n : Nat) (t : Int) (c : Nat) (mv : List (List V)) (pl : Nm) (envs : List Nm), fr < envs.length → 0 ≤ t → n = (i - t).toNat → Comes sub fr envs ⟨c, mv, pl, envs, ⟨b, fr, false, b.length, x, t, i⟩ :: { w with at_ := w.at_ + 1 } :: r, sub⟩ ({ w with at_ := w.at_ + 1 } :: r) (iter (exB sub g b) x n t ⟨c, mv, pl, envs.getD fr []⟩) := by
        intro n
        induction n with
        | zero =>
          intro t c mv pl envs hl ht hn
          exact ⟨1, envs, walk_goes (w := ⟨b, fr, false, b.length, x, t, i⟩) (List.getElem?_eq_none (Nat.le_refl _)) (show ¬ t < i by (first | lia | omega)), rfl, Kp.rfl'⟩
        | succ n ih =>
          intro t c mv pl envs hl ht hn
          rw [iter]
          by_cases hc : c = 2000
          · rw [if_pos (show (⟨c, mv, pl, envs.getD fr []⟩ : Ev).cnt = 2000 from hc)]
            refine ⟨1, ⟨c, mv, pl, envs, ⟨b, fr, false, b.length, x, t, i⟩ :: { w with at_ := w.at_ + 1 } :: r, sub⟩, rfl, one_stop rfl ?_⟩
            unfold stepW
            rw [show (⟨b, fr, false, b.length, x, t, i⟩ : Wk).body[(⟨b, fr, false, b.length, x, t, i⟩ : Wk).at_]? = none from List.getElem?_eq_none (Nat.le_refl _)]
            show (if t < i then if c = 2000 then _ else _ else _) = _
            rw [if_pos (by (first | lia | omega)), if_pos hc]
          · rw [if_neg (show ¬ (⟨c, mv, pl, envs.getD fr []⟩ : Ev).cnt = 2000 from hc)]
            have s1 : stepW ⟨c, mv, pl, envs, ⟨b, fr, false, b.length, x, t, i⟩ :: { w with at_ := w.at_ + 1 } :: r, sub⟩ ⟨b, fr, false, b.length, x, t, i⟩ ({ w with at_ := w.at_ + 1 } :: r) = .ok ⟨c + 1, mv, pl, envs.set fr (put (envs.getD fr []) x t), ⟨b, fr, false, 0, x, t + 1, i⟩ :: { w with at_ := w.at_ + 1 } :: r, sub⟩ := by
              unfold stepW
              rw [show (⟨b, fr, false, b.length, x, t, i⟩ : Wk).body[(⟨b, fr, false, b.length, x, t, i⟩ : Wk).at_]? = none from List.getElem?_eq_none (Nat.le_refl _)]
              show (if t < i then if c = 2000 then _ else _ else _) = _
              rw [if_pos (by (first | lia | omega)), if_neg hc]
              rfl
            refine Comes.after (envs1 := envs.set fr (put (envs.getD fr []) x t)) (one_step rfl s1) Kp.set ?_
            have hl1 : fr < (envs.set fr (put (envs.getD fr []) x t)).length := by rw [List.length_set]; exact hl
            have cb := comesB hg ho (c := c + 1) (mv := mv) (pl := pl) (envs := envs.set fr (put (envs.getD fr []) x t)) (w := ⟨b, fr, false, 0, x, t + 1, i⟩) (r := { w with at_ := w.at_ + 1 } :: r) (pre := []) rfl hl1 (hd.on rfl rfl) ok.2.2 rfl rfl
            rw [getD_set hl] at cb
            refine Comes.then cb fun c' mv' pl' envs' _ hk => ?_
            exact ih (t + 1) c' mv' pl' envs' (Nat.lt_of_lt_of_le hl1 hk.1) (by (first | lia | omega)) (by (first | lia | omega))
      exact turns i.toNat 0 _ _ _ _ hl (Int.le_refl _) (by (first | lia | omega))
  | .iff sg ex fx b b2, ok, hb, hc => by
    rw [Stm.ok] at ok
    have st := stepC (sub := sub) (mv := mv) (pl := pl) (envs := envs) (r := r) hb hf hc
    rw [doS] at st
    rw [exS]
    have st' : stepW _ w r = match reck (look (envs.getD fr [])) ex with | .error d => .stop ⟨c + 1, mv, pl, envs, { w with at_ := w.at_ + 1 } :: r, sub⟩ d | .ok i => (match reck (look (envs.getD fr [])) fx with
      | .error d => .stop ⟨c + 1, mv, pl, envs, { w with at_ := w.at_ + 1 } :: r, sub⟩ d
      | .ok j => .ok ⟨c + 1, mv, pl, envs, ⟨if holdsE sg i j = true then b else b2, fr, false, 0, "", 0, 0⟩ :: { w with at_ := w.at_ + 1 } :: r, sub⟩) := st
    show Comes _ _ _ _ _ (match reck (look (envs.getD fr [])) ex with | .error d => _ | .ok i => _)
    cases h : reck (look (envs.getD fr [])) ex with
    | error d => rw [h] at st'; exact ⟨1, _, rfl, one_stop rfl st'⟩
    | ok i =>
      rw [h] at st'
      show Comes _ _ _ _ _ (match reck (look (envs.getD fr [])) fx with | .error d => _ | .ok j => _)
      have st2 : stepW _ w r = match reck (look (envs.getD fr [])) fx with
        | .error d => .stop ⟨c + 1, mv, pl, envs, { w with at_ := w.at_ + 1 } :: r, sub⟩ d
        | .ok j => .ok ⟨c + 1, mv, pl, envs, ⟨if holdsE sg i j = true then b else b2, fr, false, 0, "", 0, 0⟩ :: { w with at_ := w.at_ + 1 } :: r, sub⟩ := st'
      cases h2 : reck (look (envs.getD fr [])) fx with
      | error d => rw [h2] at st2; exact ⟨1, _, rfl, one_stop rfl st2⟩
      | ok j =>
        rw [h2] at st2
        refine Comes.after (envs1 := envs) (one_step rfl st2) Kp.rfl' ?_
        show Comes _ _ _ _ _ (if holdsE sg i j = true then _ else _)
        by_cases hh : holdsE sg i j = true
        · rw [if_pos hh, if_pos hh]
          exact Comes.gone (w := ⟨b, fr, false, b.length, "", 0, 0⟩) (List.getElem?_eq_none (Nat.le_refl _)) (by show ¬ (0 : Int) < 0; decide) (comesB hg ho (w := ⟨b, fr, false, 0, "", 0, 0⟩) (r := { w with at_ := w.at_ + 1 } :: r) (pre := []) rfl hl (hd.on rfl rfl) ok.2.2.2.2.1 rfl rfl)
        · rw [if_neg hh, if_neg hh]
          exact Comes.gone (w := ⟨b2, fr, false, b2.length, "", 0, 0⟩) (List.getElem?_eq_none (Nat.le_refl _)) (by show ¬ (0 : Int) < 0; decide) (comesB hg ho (w := ⟨b2, fr, false, 0, "", 0, 0⟩) (r := { w with at_ := w.at_ + 1 } :: r) (pre := []) rfl hl (hd.on rfl rfl) ok.2.2.2.2.2 rfl rfl)
theorem comesB (hg : Calls sub k d g) (ho : ∀ s ∈ sub, oks k s.body) {c : Nat} {mv : List (List V)} {pl : Nm} {envs : List Nm} {w : Wk} {r : List Wk} (hf : w.fr = fr) (hl : fr < envs.length) (hd : Oc d (w :: r)) : ∀ {b pre : List Stm}, oks k b → w.body = pre ++ b → w.at_ = pre.length → Comes sub fr envs ⟨c, mv, pl, envs, w :: r, sub⟩ ({ w with at_ := w.body.length } :: r) (exB sub g b ⟨c, mv, pl, envs.getD fr []⟩)
  | [], pre, ok, hb, ha => by
    rw [exB]
    have hlen : w.body.length = w.at_ := by rw [hb, List.append_nil, ha]
    refine ⟨0, envs, fun m => ?_, rfl, Kp.rfl'⟩
    rw [Nat.zero_add, hlen]
    rfl
  | s :: b, pre, ok, hb, ha => by
    rw [oks] at ok
    rw [exB]
    have gt : w.body[w.at_]? = some s := by rw [hb, ha]; simp
    by_cases hc : c = 2000
    · rw [if_pos (show (⟨c, mv, pl, envs.getD fr []⟩ : Ev).cnt = 2000 from hc)]
      have st : stepW ⟨c, mv, pl, envs, w :: r, sub⟩ w r = .stop ⟨c, mv, pl, envs, { w with at_ := w.at_ + 1 } :: r, sub⟩ dLong := by
        unfold stepW
        rw [gt]
        show (if c = 2000 then _ else _) = _
        rw [if_pos hc]
      exact ⟨1, _, rfl, one_stop rfl st⟩
    · rw [if_neg (show ¬ (⟨c, mv, pl, envs.getD fr []⟩ : Ev).cnt = 2000 from hc)]
      refine Comes.then (comesS hg ho hf hl hd ok.1 gt hc) fun c' mv' pl' envs' _ hk => ?_
      exact comesB hg ho (w := { w with at_ := w.at_ + 1 }) (pre := pre ++ [s]) hf (Nat.lt_of_lt_of_le hl hk.1) (hd.at_ rfl) ok.2 (by show w.body = _; rw [hb]; simp) (by show w.at_ + 1 = _; rw [ha]; simp)
end
theorem getD_last {envs : List Nm} {x : Nm} : (envs ++ [x]).getD envs.length [] = x := by simp [List.getD_eq_getElem?_getD]
theorem calls_deep (ho : ∀ s ∈ sub, oks k s.body) : ∀ d : Nat, ∃ g, exD sub d = exB sub g ∧ Calls sub k d g
  | 0 => ⟨none, by rw [exD], rfl⟩
  | d + 1 => by
    obtain ⟨g, e, h⟩ := calls_deep ho d
    refine ⟨some (exD sub d), by rw [exD], Nat.succ_pos _, fun b c mv pl envs on nm ok oc => ?_⟩
    have cb := comesB (sub := sub) (fr := envs.length) h ho (c := c) (mv := mv) (pl := pl) (envs := envs ++ [nm]) (w := ⟨b, envs.length, true, 0, "", 0, 0⟩) (r := on) (pre := []) rfl (by rw [List.length_append]; exact Nat.lt_succ_self _) (by unfold Oc at oc ⊢; rw [List.filter_cons, if_pos rfl, List.length_cons]; (first | lia | omega)) ok rfl rfl
    rw [getD_last] at cb
    rw [e]
    exact Comes.gone (w := ⟨b, envs.length, true, b.length, "", 0, 0⟩) (List.getElem?_eq_none (Nat.le_refl _)) (by show ¬ (0 : Int) < 0; decide) cb
end
theorem runN_more : ∀ (m : Nat) (S : RS), meas S ≤ m → S.cnt ≤ 2000 → ∀ j, runN (m + j) S = runN m S := by
  intro m
  induction m with
  | zero =>
    intro S hm hc j
    have hs : S.stk = [] := by unfold meas at hm; exact List.eq_nil_of_length_eq_zero (by (first | lia | omega))
    rw [runN_nil hs, runN_nil hs]
  | succ m ih =>
    intro S hm hc j
    cases hs : S.stk with
    | nil => rw [runN_nil hs, runN_nil hs]
    | cons w r =>
      rw [show m + 1 + j = (m + j) + 1 by (first | lia | omega), runN, runN, hs]
      show (match stepW S w r with | .ok S' => runN (m + j) S' | .stop S' d => .stop S' d | .bad => .bad) = (match stepW S w r with | .ok S' => runN m S' | .stop S' d => .stop S' d | .bad => .bad)
      cases h : stepW S w r with
      | stop S' d => rfl
      | bad => rfl
      | ok S' =>
        have h1 := stepW_meas hs hc h
        have h2 : S'.cnt ≤ 2000 := by
          unfold stepW at h
          split at h
          · split at h
            · cases h
            · have := (doS_meas h).1
              have h3 : S'.cnt = S.cnt + 1 := this
              (first | lia | omega)
          · split at h
            · split at h
              · cases h
              · cases h
                show S.cnt + 1 ≤ 2000
                (first | lia | omega)
            · cases h
              exact hc
        exact ih S' (by (first | lia | omega)) h2 j
theorem runP_ev {p : Prog} {k : Nat} (ok : oks k p.body) (ho : ∀ s ∈ p.subs, oks k s.body) : runP p = evRes (exD p.subs 10 p.body ⟨0, [], begN, []⟩) ∧ (exD p.subs 10 p.body ⟨0, [], begN, []⟩ ≠ .bad → runN 4001 (S0 p) ≠ .bad) := by
  obtain ⟨g, eg, hg⟩ := calls_deep ho 10
  have c := comesB (sub := p.subs) (fr := 0) hg ho (c := 0) (mv := []) (pl := begN) (envs := [[]]) (w := ⟨p.body, 0, false, 0, "", 0, 0⟩) (r := []) rfl (by decide) rfl (pre := []) ok rfl rfl
  have m4 : meas (S0 p) ≤ 4001 := Nat.le_refl _
  unfold runP
  have e0 : (⟨0, [], begN, [[]], [⟨p.body, 0, false, 0, "", 0, 0⟩], p.subs⟩ : RS) = S0 p := rfl
  rw [e0] at c
  have c' : Comes p.subs 0 [[]] (S0 p) [⟨p.body, 0, false, p.body.length, "", 0, 0⟩] (exB p.subs g p.body ⟨0, [], begN, []⟩) := c
  rw [eg]
  cases hx : exB p.subs g p.body ⟨0, [], begN, []⟩ with
  | ok e =>
    rw [hx] at c'
    obtain ⟨k1, v, h, _⟩ := c'
    have h1 := runN_more 4001 (S0 p) m4 (by show 0 ≤ 2000; decide) k1
    rw [Nat.add_comm, h] at h1
    rw [← h1, show (4001 : Nat) = 1 + 4000 from rfl, Ev.rs, walk_goes (w := ⟨p.body, 0, false, p.body.length, "", 0, 0⟩) (List.getElem?_eq_none (Nat.le_refl _)) (by show ¬ (0 : Int) < 0; decide), runN_nil rfl]
    exact ⟨rfl, fun _ z => by cases z⟩
  | stop e d =>
    rw [hx] at c'
    obtain ⟨k1, S', e1, h⟩ := c'
    have h1 := runN_more 4001 (S0 p) m4 (by show 0 ≤ 2000; decide) k1
    rw [Nat.add_comm, h] at h1
    rw [← h1]
    refine ⟨?_, fun _ z => by cases z⟩
    show (S'.moves, d) = (e.moves, d)
    rw [e1]
  | bad =>
    rw [hx] at c'
    obtain ⟨k1, h⟩ := c'
    have h1 := runN_more 4001 (S0 p) m4 (by show 0 ≤ 2000; decide) k1
    rw [Nat.add_comm, h] at h1
    rw [← h1]
    exact ⟨rfl, fun z => (z rfl).elim⟩
end Car

set_option maxHeartbeats 1000000
namespace Car
open PySem L2
noncomputable def Grw (m : List (List V)) : EvR → Prop
  | .ok e => m <+: e.moves
  | .stop e _ => m <+: e.moves
  | .bad => True
theorem Grw.trans {m m' : List (List V)} (h : m <+: m') : ∀ {r : EvR}, Grw m' r → Grw m r
  | .ok _, g => List.IsPrefix.trans h g
  | .stop _ _, g => List.IsPrefix.trans h g
  | .bad, _ => trivial
theorem Grw.bind {m : List (List V)} {f : Ev → EvR} (hf : ∀ e, Grw e.moves (f e)) : ∀ {r : EvR}, Grw m r → Grw m (r.bind f)
  | .ok e, h => Grw.trans h (hf e)
  | .stop _ _, h => h
  | .bad, _ => trivial
theorem Grw.back {m : List (List V)} {e : Ev} : ∀ {r : EvR}, Grw m r → Grw m (back e r)
  | .ok _, h => h
  | .stop _ _, h => h
  | .bad, _ => trivial
theorem grow_iter {f : Ev → EvR} {x : Str} (hf : ∀ e, Grw e.moves (f e)) : ∀ (n : Nat) (t : Int) (e : Ev), Grw e.moves (iter f x n t e)
  | 0, _, e => List.prefix_refl _
  | n + 1, t, e => by
    rw [iter]
    split
    · exact List.prefix_refl _
    · exact (hf { e with cnt := e.cnt + 1, env := put e.env x t }).bind (grow_iter hf n (t + 1))
section
variable {subs : List Sub} {g : Option (List Stm → Ev → EvR)}
theorem grow_call (hg : ∀ f, g = some f → ∀ b e, Grw e.moves (f b e)) (x : Str) (es : List Ex) (e : Ev) : Grw e.moves (exC subs g x es e) := by
  unfold exC
  cases g with
  | none => exact List.prefix_refl _
  | some f =>
    dsimp only
    cases subOf x subs with
    | none => trivial
    | some sb =>
      dsimp only
      cases recks (look e.env) es with
      | error d => exact List.prefix_refl _
      | ok ns => exact (hg f rfl sb.body { e with env := putAll [] (sb.names.zip ns) }).back
mutual
theorem growS (hg : ∀ f, g = some f → ∀ b e, Grw e.moves (f b e)) : ∀ (s : Stm) (e : Ev), Grw e.moves (exS subs g s e)
  | .hold ex, e => by
    rw [exS]
    split
    · exact List.prefix_refl _
    · exact List.prefix_append _ _
  | .move k a ex y, e => by
    rw [exS]
    split
    · exact List.prefix_refl _
    · split
      · split
        · exact List.prefix_refl _
        · exact List.prefix_append _ _
      · exact List.prefix_append _ _
  | .lt x ex, e => by
    rw [exS]
    split
    · exact List.prefix_refl _
    · exact List.prefix_refl _
  | .call x es, e => by
    rw [exS]
    exact grow_call hg x es e
  | .times x ex b, e => by
    rw [exS]
    split
    · exact List.prefix_refl _
    · exact grow_iter (growB hg b) _ _ _
  | .iff s ex fx b c, e => by
    rw [exS]
    split
    · exact List.prefix_refl _
    · split
      · exact List.prefix_refl _
      · split
        · exact growB hg b e
        · exact growB hg c e
theorem growB (hg : ∀ f, g = some f → ∀ b e, Grw e.moves (f b e)) : ∀ (b : List Stm) (e : Ev), Grw e.moves (exB subs g b e)
  | [], e => by
    rw [exB]
    exact List.prefix_refl _
  | s :: r, e => by
    rw [exB]
    split
    · exact List.prefix_refl _
    · exact (growS hg s { e with cnt := e.cnt + 1 }).bind (growB hg r)
end
end
theorem growD {subs : List Sub} : ∀ (d : Nat) (b : List Stm) (e : Ev), Grw e.moves (exD subs d b e)
  | 0, b, e => growB (fun f h => by cases h) b e
  | d + 1, b, e => growB (fun f h b e => by cases h; exact growD d b e) b e
structure Lg (a b : Ev) : Prop where
  mv : a.moves = b.moves
  pl : a.pl = b.pl
  env : a.env = b.env
  le : b.cnt ≤ a.cnt
  top : a.cnt ≤ 2000
noncomputable def Lag (X : PyData → Prop) (r1 r2 : EvR) : Prop := match r2, r1 with
  | .bad, _ => True
  | _, .bad => True
  | .ok b, .ok a => Lg a b
  | .stop _ _, .ok _ => False
  | .ok b, .stop a d => X d ∧ a.moves <+: b.moves
  | .stop b d', .stop a d => (X d ∧ a.moves <+: b.moves) ∨ (d = d' ∧ a.moves = b.moves)
theorem Lag.stop {X : PyData → Prop} {a : Ev} {d : PyData} (hX : X d) : ∀ {r : EvR}, Grw a.moves r → Lag X (.stop a d) r
  | .ok _, h => ⟨hX, h⟩
  | .stop _ _, h => .inl ⟨hX, h⟩
  | .bad, _ => trivial
theorem Lag.bind {X : PyData → Prop} {f1 f2 : Ev → EvR} (hf : ∀ a b, Lg a b → Lag X (f1 a) (f2 b)) (hg : ∀ e, Grw e.moves (f2 e)) {r1 r2 : EvR} (h : Lag X r1 r2) : Lag X (r1.bind f1) (r2.bind f2) := by
  cases r2 with
  | bad => cases r1 <;> trivial
  | ok b =>
    cases r1 with
    | ok a => exact hf a b h
    | stop a d => exact Lag.stop h.1 ((hg b).trans h.2)
    | bad =>
      show Lag X .bad (f2 b)
      cases f2 b <;> trivial
  | stop b d' =>
    cases r1 with
    | ok a => exact h.elim
    | stop a d => exact h
    | bad => trivial
theorem Lag.back {X : PyData → Prop} {e1 e2 : Ev} (he : e1.env = e2.env) {r1 r2 : EvR} (h : Lag X r1 r2) : Lag X (back e1 r1) (back e2 r2) := by
  cases r2 with
  | bad => cases r1 <;> trivial
  | ok b =>
    cases r1 with
    | ok a => exact ⟨h.mv, h.pl, he, h.le, h.top⟩
    | stop a d => exact h
    | bad => trivial
  | stop b d' =>
    cases r1 with
    | ok a => exact h.elim
    | stop a d => exact h
    | bad => trivial
theorem lag_iter {X : PyData → Prop} (hX : X dLong) {f1 f2 : Ev → EvR} {x : Str} (hf : ∀ a b, Lg a b → Lag X (f1 a) (f2 b)) (hg : ∀ e, Grw e.moves (f2 e)) : ∀ (n : Nat) (t : Int) (a b : Ev), Lg a b → Lag X (iter f1 x n t a) (iter f2 x n t b)
  | 0, _, _, _, h => h
  | n + 1, t, a, b, h => by
    have h0 := grow_iter hg (x := x) (n + 1) t b
    rw [iter]
    by_cases ha : a.cnt = 2000
    · rw [if_pos ha]
      exact Lag.stop hX (by rw [h.mv]; exact h0)
    · have hb : b.cnt ≠ 2000 := by have := h.le; have := h.top; (first | lia | omega)
      rw [if_neg ha, iter, if_neg hb]
      exact Lag.bind (lag_iter hX hf hg n (t + 1)) (fun e => grow_iter hg n (t + 1) e) (hf _ _ ⟨h.mv, h.pl, by show put a.env x t = put b.env x t; rw [h.env], Nat.succ_le_succ h.le, by have := h.top; show a.cnt + 1 ≤ 2000; (first | lia | omega)⟩)
section
variable {X : PyData → Prop} {s1 s2 : List Sub} {g1 g2 : Option (List Stm → Ev → EvR)}
theorem lag_same {a b : Ev} {d : PyData} (h : Lg a b) : Lag X (.stop a d) (.stop b d) := .inr ⟨rfl, h.mv⟩
mutual
theorem lagS (hX : X dLong) (hg : ∀ f, g2 = some f → ∀ b e, Grw e.moves (f b e)) (hc : ∀ x es a b, Lg a b → Lag X (exC s1 g1 x es a) (exC s2 g2 x es b)) : ∀ (s : Stm) (a b : Ev), Lg a b → Lag X (exS s1 g1 s a) (exS s2 g2 s b)
  | .hold ex, a, b, h => by
    rw [exS, exS, h.env]
    cases reck (look b.env) ex with
    | error d => exact lag_same h
    | ok i => exact ⟨by show a.moves ++ _ = b.moves ++ _; rw [h.mv], h.pl, rfl, h.le, h.top⟩
  | .move k x ex y, a, b, h => by
    rw [exS, exS, h.env, h.pl]
    cases reck (look b.env) ex with
    | error d => exact lag_same h
    | ok i =>
      dsimp only
      by_cases hy : y = true
      · rw [if_pos hy, if_pos hy]
        cases bnd ((look b.pl x).getD 0 + i) with
        | error d => exact lag_same h
        | ok j => exact ⟨by show a.moves ++ _ = b.moves ++ _; rw [h.mv], rfl, rfl, h.le, h.top⟩
      · rw [if_neg hy, if_neg hy]
        exact ⟨by show a.moves ++ _ = b.moves ++ _; rw [h.mv], rfl, rfl, h.le, h.top⟩
  | .lt x ex, a, b, h => by
    rw [exS, exS, h.env]
    cases reck (look b.env) ex with
    | error d => exact lag_same h
    | ok i => exact ⟨h.mv, h.pl, rfl, h.le, h.top⟩
  | .call x es, a, b, h => by
    rw [exS, exS]
    exact hc x es a b h
  | .times x ex bd, a, b, h => by
    rw [exS, exS, h.env]
    cases reck (look b.env) ex with
    | error d => exact lag_same h
    | ok i => exact lag_iter hX (lagB hX hg hc bd) (growB hg bd) _ _ _ _ h
  | .iff s ex fx bd c, a, b, h => by
    rw [exS, exS, h.env]
    cases reck (look b.env) ex with
    | error d => exact lag_same h
    | ok i =>
      dsimp only
      cases reck (look b.env) fx with
      | error d => exact lag_same h
      | ok j =>
        dsimp only
        by_cases hh : holdsE s i j = true
        · rw [if_pos hh, if_pos hh]
          exact lagB hX hg hc bd a b h
        · rw [if_neg hh, if_neg hh]
          exact lagB hX hg hc c a b h
theorem lagB (hX : X dLong) (hg : ∀ f, g2 = some f → ∀ b e, Grw e.moves (f b e)) (hc : ∀ x es a b, Lg a b → Lag X (exC s1 g1 x es a) (exC s2 g2 x es b)) : ∀ (bd : List Stm) (a b : Ev), Lg a b → Lag X (exB s1 g1 bd a) (exB s2 g2 bd b)
  | [], a, b, h => by
    rw [exB, exB]
    exact h
  | s :: r, a, b, h => by
    have h0 := growB (subs := s2) hg (s :: r) b
    rw [exB]
    by_cases ha : a.cnt = 2000
    · rw [if_pos ha]
      exact Lag.stop hX (by rw [h.mv]; exact h0)
    · have hb : b.cnt ≠ 2000 := by have := h.le; have := h.top; (first | lia | omega)
      rw [if_neg ha, exB, if_neg hb]
      exact Lag.bind (lagB hX hg hc r) (growB hg r) (lagS hX hg hc s _ _ ⟨h.mv, h.pl, h.env, Nat.succ_le_succ h.le, by have := h.top; show a.cnt + 1 ≤ 2000; (first | lia | omega)⟩)
end
end
theorem lagD {X : PyData → Prop} {s1 s2 : List Sub} (hX : X dLong) (hs : ∀ x, subOf x s2 = none ∨ subOf x s1 = subOf x s2) : ∀ (d1 d2 : Nat), d1 ≤ d2 → (X dDeep ∨ d1 = d2) → ∀ (bd : List Stm) (a b : Ev), Lg a b → Lag X (exD s1 d1 bd a) (exD s2 d2 bd b)
  | 0, d2, hd, hx, bd, a, b, h => by
    cases d2 with
    | zero =>
      exact lagB (s1 := s1) (s2 := s2) (g1 := none) (g2 := none) hX (fun f z => by cases z) (fun x es a b h => lag_same h) bd a b h
    | succ d2 =>
      rcases hx with hx | hx
      · exact lagB (s1 := s1) (s2 := s2) (g1 := none) (g2 := some (exD s2 d2)) hX (fun f z b e => by cases z; exact growD d2 b e) (fun x es a b h => Lag.stop hx (by rw [h.mv]; exact grow_call (subs := s2) (g := some (exD s2 d2)) (fun f z b e => by cases z; exact growD d2 b e) x es b)) bd a b h
      · cases hx
  | d1 + 1, 0, hd, _, _, _, _, _ => absurd hd (Nat.not_succ_le_zero _)
  | d1 + 1, d2 + 1, hd, hx, bd, a, b, h => by
    refine lagB (s1 := s1) (s2 := s2) (g1 := some (exD s1 d1)) (g2 := some (exD s2 d2)) hX (fun f z b e => by cases z; exact growD d2 b e) (fun x es a b h => ?_) bd a b h
    unfold exC
    dsimp only
    rcases hs x with e | e
    · rw [e]
      cases (match subOf x s1 with | none => EvR.bad | some sb => match recks (look a.env) es with | .error d => .stop a d | .ok ns => back a (exD s1 d1 sb.body { a with env := putAll [] (sb.names.zip ns) })) <;> trivial
    · rw [e]
      cases subOf x s2 with
      | none => trivial
      | some sb =>
        dsimp only
        rw [h.env]
        cases recks (look b.env) es with
        | error d => exact lag_same h
        | ok ns =>
          exact Lag.back h.env (lagD hX hs d1 d2 (Nat.le_of_succ_le_succ hd) (hx.imp id Nat.succ.inj) sb.body _ _ ⟨h.mv, h.pl, rfl, h.le, h.top⟩)
end Car

set_option maxHeartbeats 1000000
namespace Car
open PySem L2
theorem EvR.bind_assoc {r : EvR} {f g : Ev → EvR} : (r.bind f).bind g = r.bind fun e => (f e).bind g := by
  cases r <;> rfl
theorem bnd_ok16 {i : Int} (h0 : 0 ≤ i) (h1 : i ≤ 1000000) : bnd i = .ok i := by
  unfold bnd
  simp
  (first | lia | omega)
section
variable {subs : List Sub} {g : Option (List Stm → Ev → EvR)}
theorem exB_append : ∀ (xs ys : List Stm) (e : Ev), exB subs g (xs ++ ys) e = (exB subs g xs e).bind (exB subs g ys)
  | [], ys, e => by
    rw [List.nil_append, exB]
    rfl
  | s :: xs, ys, e => by
    rw [List.cons_append, exB, exB]
    split
    · rfl
    · rw [EvR.bind_assoc]
      congr 1
      funext e'
      exact exB_append xs ys e'
noncomputable def unr (x : Str) (b : List Stm) : Nat → Int → List Stm
  | 0, _ => []
  | n + 1, t => .lt x (.num t) :: (b ++ unr x b n (t + 1))
theorem iter_unr (x : Str) (b : List Stm) : ∀ (n : Nat) (t : Int) (e : Ev), 0 ≤ t → t + n ≤ 1000000 → iter (exB subs g b) x n t e = exB subs g (unr x b n t) e
  | 0, t, e, _, _ => by
    rw [iter, unr, exB]
  | n + 1, t, e, h0, h1 => by
    rw [iter, unr, exB]
    split
    · rfl
    · rw [exS, reck, bnd_ok16 h0 (by (first | lia | omega))]
      show (exB subs g b { e with cnt := e.cnt + 1, env := put e.env x t }).bind _ = exB subs g (b ++ unr x b n (t + 1)) { e with cnt := e.cnt + 1, env := put e.env x t }
      rw [exB_append]
      congr 1
      funext e'
      exact iter_unr x b n (t + 1) e' (by (first | lia | omega)) (by (first | lia | omega))
theorem exB_times {x : Str} {n : Int} {b rest : List Stm} {e : Ev} (h : e.cnt ≠ 2000) (n0 : 0 ≤ n) (n1 : n ≤ 1000) : exB subs g (.times x (.num n) b :: rest) e = exB subs g (unr x b n.toNat 0 ++ rest) { e with cnt := e.cnt + 1 } := by
  rw [exB, if_neg h, exS, exB_append, reck, bnd_ok16 n0 (by (first | lia | omega))]
  show (iter (exB subs g b) x n.toNat 0 { e with cnt := e.cnt + 1 }).bind _ = _
  rw [iter_unr _ _ _ _ _ (Int.le_refl _) (by (first | lia | omega))]
end
theorem exD_B (subs : List Sub) (d : Nat) : ∃ g, exD subs d = exB subs g := by
  cases d with
  | zero => exact ⟨none, rfl⟩
  | succ d => exact ⟨some (exD subs d), rfl⟩
theorem exD_append {subs : List Sub} {d : Nat} (xs ys : List Stm) (e : Ev) : exD subs d (xs ++ ys) e = (exD subs d xs e).bind (exD subs d ys) := by
  obtain ⟨g, hg⟩ := exD_B subs d
  rw [hg]
  exact exB_append xs ys e
noncomputable def Few : EvR → Prop
  | .ok e => e.cnt ≤ 2000
  | _ => True
theorem lag_loop {subs : List Sub} {d : Nat} {lets b rest : List Stm} {x : Str} {n : Int} {e : Ev} (h : e.cnt ≤ 2000) (n0 : 0 ≤ n) (n1 : n ≤ 1000) : Lag (fun z => z = dLong) (exD subs d (lets ++ (.times x (.num n) b :: rest)) e) (exD subs d (lets ++ (unr x b n.toNat 0 ++ rest)) e) := by
  have self := lagD (X := fun z => z = dLong) (s1 := subs) (s2 := subs) rfl (fun x => .inr rfl) d d (Nat.le_refl _) (.inr rfl)
  have few : Few (exD subs d lets e) := by
    have := self lets e e ⟨rfl, rfl, rfl, Nat.le_refl _, h⟩
    cases hr : exD subs d lets e with
    | ok e' =>
      rw [hr] at this
      exact this.top
    | stop _ _ => trivial
    | bad => trivial
  rw [exD_append, exD_append]
  cases hr : exD subs d lets e with
  | bad => trivial
  | stop e' z => exact .inr ⟨rfl, rfl⟩
  | ok e' =>
    rw [hr] at few
    have hc : e'.cnt ≤ 2000 := few
    show Lag _ (exD subs d (.times x (.num n) b :: rest) e') (exD subs d (unr x b n.toNat 0 ++ rest) e')
    by_cases h2 : e'.cnt = 2000
    · obtain ⟨g, hg⟩ := exD_B subs d
      have e1 : exD subs d (.times x (.num n) b :: rest) e' = .stop e' dLong := by rw [hg, exB, if_pos h2]
      rw [e1]
      exact Lag.stop (X := fun z => z = dLong) (d := dLong) rfl (growD d _ e')
    · obtain ⟨g, hg⟩ := exD_B subs d
      have e1 : exD subs d (.times x (.num n) b :: rest) e' = exD subs d (unr x b n.toNat 0 ++ rest) { e' with cnt := e'.cnt + 1 } := by rw [hg]; exact exB_times h2 n0 n1
      rw [e1]
      exact self _ _ _ ⟨rfl, rfl, rfl, Nat.le_succ _, by show e'.cnt + 1 ≤ 2000; (first | lia | omega)⟩
theorem Lag.res {X : PyData → Prop} {r1 r2 : EvR} (h : Lag X r1 r2) (h1 : r1 ≠ .bad) (h2 : r2 ≠ .bad) : (evRes r1).1 <+: (evRes r2).1 ∧ (X (evRes r1).2 ∨ evRes r1 = evRes r2) := by
  cases r2 with
  | bad => exact absurd rfl h2
  | ok b =>
    cases r1 with
    | bad => exact absurd rfl h1
    | ok a => exact ⟨by show a.moves <+: b.moves; rw [h.mv]; exact List.prefix_refl _, .inr (by show (a.moves, dDone) = (b.moves, dDone); rw [h.mv])⟩
    | stop a d => exact ⟨h.2, .inl h.1⟩
  | stop b d' =>
    cases r1 with
    | bad => exact absurd rfl h1
    | ok a => exact h.elim
    | stop a d =>
      rcases h with h | ⟨rfl, h⟩
      · exact ⟨h.2, .inl h.1⟩
      · exact ⟨by show a.moves <+: b.moves; rw [h]; exact List.prefix_refl _, .inr (by show (a.moves, d) = (b.moves, d); rw [h])⟩
end Car

set_option maxHeartbeats 1000000
namespace Car
open PySem L2
theorem subOf_snoc (x : Str) (m : Sub) : ∀ subs : List Sub, subOf x (subs ++ [m]) = if m.name = x then some m else subOf x subs
  | [] => by
    rw [List.nil_append, subOf]
    rfl
  | s :: r => by
    rw [List.cons_append, subOf, subOf_snoc x m r]
    by_cases h : m.name = x
    · rw [if_pos h, if_pos h]
    · rw [if_neg h, if_neg h, subOf]
theorem evRes_back {e : Ev} : ∀ r : EvR, evRes (back e r) = evRes r
  | .ok _ => rfl
  | .stop _ _ => rfl
  | .bad => rfl
theorem bind_nil {subs : List Sub} {g : Option (List Stm → Ev → EvR)} : ∀ r : EvR, r.bind (exB subs g []) = r
  | .ok e => by
    show exB subs g [] e = _
    rw [exB]
  | .stop _ _ => rfl
  | .bad => rfl
theorem lag_called {subs : List Sub} {m : Sub} (hm : m.names = []) (hn : subOf m.name subs = none) : ∃ R, evRes (exD (subs ++ [m]) 10 [.call m.name []] ⟨0, [], begN, []⟩) = evRes R ∧ (exD (subs ++ [m]) 10 [.call m.name []] ⟨0, [], begN, []⟩ ≠ .bad → R ≠ .bad) ∧ Lag (fun z => z = dLong ∨ z = dDeep) R (exD subs 10 m.body ⟨0, [], begN, []⟩) := by
  have hs : ∀ x, subOf x subs = none ∨ subOf x (subs ++ [m]) = subOf x subs := fun x => by
    rw [subOf_snoc]
    by_cases h : m.name = x
    · exact .inl (h ▸ hn)
    · exact .inr (if_neg h)
  have e1 : exD (subs ++ [m]) 10 [.call m.name []] ⟨0, [], begN, []⟩ = back ⟨1, [], begN, []⟩ (exD (subs ++ [m]) 9 m.body ⟨1, [], begN, []⟩) := by
    show exB (subs ++ [m]) (some (exD (subs ++ [m]) 9)) [.call m.name []] ⟨0, [], begN, []⟩ = _
    rw [exB, if_neg (by decide), bind_nil, exS]
    unfold exC
    dsimp only
    rw [subOf_snoc, if_pos rfl]
    dsimp only
    rw [recks, hm]
    rfl
  refine ⟨exD (subs ++ [m]) 9 m.body ⟨1, [], begN, []⟩, by rw [e1, evRes_back], fun h z => h (by rw [e1, z]; rfl), lagD (.inl rfl) hs 9 10 (by decide) (.inl (.inr rfl)) _ _ _ ⟨rfl, rfl, rfl, Nat.zero_le _, by decide⟩⟩
end Car

set_option maxHeartbeats 1000000
namespace Car
open PySem L2
noncomputable def Ex.sok : Ex → Prop
  | .num _ => True
  | .nam x => PyData.strOk x = true
  | .bin _ a b => a.sok ∧ b.sok
mutual
noncomputable def Stm.cin (N : List Str) : Stm → Prop
  | .hold e => e.sok
  | .move k a e _ => PyData.strOk k = true ∧ PyData.strOk a = true ∧ e.sok
  | .lt _ e => e.sok
  | .call x es => x ∈ N ∧ ∀ e ∈ es, e.sok
  | .times _ e b => e.sok ∧ cins N b
  | .iff _ e f b c => e.sok ∧ f.sok ∧ cins N b ∧ cins N c
noncomputable def cins (N : List Str) : List Stm → Prop
  | [] => True
  | s :: r => s.cin N ∧ cins N r
end
theorem cins_append {N : List Str} : ∀ {xs ys : List Stm}, cins N xs → cins N ys → cins N (xs ++ ys)
  | [], _, _, h => h
  | s :: xs, ys, h, h' => by
    rw [cins] at h
    rw [List.cons_append, cins]
    exact ⟨h.1, cins_append h.2 h'⟩
theorem cins_unr {N : List Str} {x : Str} {b : List Stm} (h : cins N b) : ∀ (n : Nat) (t : Int), cins N (unr x b n t)
  | 0, _ => by rw [unr, cins]; trivial
  | n + 1, t => by
    rw [unr, cins, Stm.cin]
    exact ⟨trivial, cins_append h (cins_unr h n (t + 1))⟩
noncomputable def Sc (ms : List (List V)) : Prop := ∀ m ∈ ms, m.all scV = true
noncomputable def EvFin : EvR → Prop
  | .ok e => Sc e.moves
  | .stop e d => Sc e.moves ∧ EndOk d
  | .bad => False
theorem Sc.snoc {ms : List (List V)} {m : List V} (h : Sc ms) (hm : m.all scV = true) : Sc (ms ++ [m]) := fun x hx => by
  rcases List.mem_append.mp hx with hx | hx
  · exact h x hx
  · rw [List.mem_singleton.mp hx]
    exact hm
theorem end_long : EndOk dLong := ⟨by decide +kernel, by decide⟩
theorem end_deep : EndOk dDeep := ⟨by decide +kernel, by decide⟩
theorem end_big : EndOk dBig := ⟨by decide +kernel, by decide⟩
theorem end_done : EndOk dDone := ⟨by decide +kernel, by decide⟩
theorem end_unknown {x : Str} (h : PyData.strOk x = true) : EndOk (dUnknown x) := by
  refine ⟨?_, by show 1 ≤ 10; decide⟩
  rw [PyData.canLay0, PyData.canLayAll0, PyData.canLayAll0, PyData.canLayAll0, PyData.canLay0, PyData.canLay0, h]
  decide +kernel
theorem end_reck {env : Str → Option Int} : ∀ {e : Ex} {d : PyData}, e.sok → reck env e = .error d → EndOk d
  | .num n, d, _, h => by
    rw [reck] at h
    rw [(bnd_err h).1]
    exact end_big
  | .nam x, d, hs, h => by
    rw [reck] at h
    cases e : env x with
    | some i => rw [e] at h; cases h
    | none =>
      rw [e] at h
      cases h
      exact end_unknown hs
  | .bin s a b, d, hs, h => by
    rw [reck] at h
    cases e1 : reck env a with
    | error d1 =>
      rw [e1] at h
      cases h
      exact end_reck hs.1 e1
    | ok i =>
      rw [e1] at h
      cases e2 : reck env b with
      | error d1 =>
        rw [e2] at h
        cases h
        exact end_reck hs.2 e2
      | ok j =>
        rw [e2] at h
        rw [(bnd_err h).1]
        exact end_big
theorem end_recks {env : Str → Option Int} : ∀ {es : List Ex} {d : PyData}, (∀ e ∈ es, e.sok) → recks env es = .error d → EndOk d
  | [], d, _, h => by rw [recks] at h; cases h
  | e :: r, d, hs, h => by
    rw [recks] at h
    cases e1 : reck env e with
    | error d1 =>
      rw [e1] at h
      cases h
      exact end_reck (hs e List.mem_cons_self) e1
    | ok i =>
      rw [e1] at h
      cases e2 : recks env r with
      | error d1 =>
        rw [e2] at h
        cases h
        exact end_recks (fun x hx => hs x (List.mem_cons_of_mem _ hx)) e2
      | ok ns => rw [e2] at h; cases h
theorem fin_bind {r : EvR} {f : Ev → EvR} (h : EvFin r) (hf : ∀ e, Sc e.moves → EvFin (f e)) : EvFin (r.bind f) := by
  cases r with
  | ok e => exact hf e h
  | stop e d => exact h
  | bad => exact h.elim
theorem fin_iter {f : Ev → EvR} {x : Str} (hf : ∀ e, Sc e.moves → EvFin (f e)) : ∀ (n : Nat) (t : Int) (e : Ev), Sc e.moves → EvFin (iter f x n t e)
  | 0, t, e, h => by
    rw [iter]
    exact h
  | n + 1, t, e, h => by
    rw [iter]
    split
    · exact ⟨h, end_long⟩
    · exact fin_bind (hf _ h) (fin_iter hf n (t + 1))
theorem sc_move {k a : Str} {i : Int} (h1 : PyData.strOk k = true) (h2 : PyData.strOk a = true) : ([V.str k, .str a, .int i] : List V).all scV = true := by
  rw [List.all_cons, List.all_cons, List.all_cons, List.all_nil, scV, scV, scV, h1, h2]
  rfl
section
variable {subs : List Sub} {g : Option (List Stm → Ev → EvR)} {N : List Str}
mutual
theorem finS (hc : ∀ x ∈ N, ∀ es e, (∀ ex ∈ es, Ex.sok ex) → Sc e.moves → EvFin (exC subs g x es e)) : ∀ (s : Stm), s.cin N → ∀ e, Sc e.moves → EvFin (exS subs g s e)
  | .hold ex, h, e, sc => by
    rw [exS]
    rw [Stm.cin] at h
    split
    · rename_i d hd
      exact ⟨sc, end_reck h hd⟩
    · exact sc.snoc (by show (PyData.strOk "hold" && (true && true)) = true; decide +kernel)
  | .move k a ex y, h, e, sc => by
    rw [exS]
    rw [Stm.cin] at h
    split
    · rename_i d hd
      exact ⟨sc, end_reck h.2.2 hd⟩
    · split
      · split
        · rename_i d hd
          exact ⟨sc, by rw [(bnd_err hd).1]; exact end_big⟩
        · exact sc.snoc (sc_move h.1 h.2.1)
      · exact sc.snoc (sc_move h.1 h.2.1)
  | .lt x ex, h, e, sc => by
    rw [exS]
    rw [Stm.cin] at h
    split
    · rename_i d hd
      exact ⟨sc, end_reck h hd⟩
    · exact sc
  | .call x es, h, e, sc => by
    rw [exS]
    rw [Stm.cin] at h
    exact hc x h.1 es e h.2 sc
  | .times x ex b, h, e, sc => by
    rw [exS]
    rw [Stm.cin] at h
    split
    · rename_i d hd
      exact ⟨sc, end_reck h.1 hd⟩
    · exact fin_iter (finB hc b h.2) _ _ _ sc
  | .iff s ex fx b c, h, e, sc => by
    rw [exS]
    rw [Stm.cin] at h
    split
    · rename_i d hd
      exact ⟨sc, end_reck h.1 hd⟩
    · split
      · rename_i d hd
        exact ⟨sc, end_reck h.2.1 hd⟩
      · split
        · exact finB hc b h.2.2.1 e sc
        · exact finB hc c h.2.2.2 e sc
theorem finB (hc : ∀ x ∈ N, ∀ es e, (∀ ex ∈ es, Ex.sok ex) → Sc e.moves → EvFin (exC subs g x es e)) : ∀ (b : List Stm), cins N b → ∀ e, Sc e.moves → EvFin (exB subs g b e)
  | [], _, e, sc => by
    rw [exB]
    exact sc
  | s :: r, h, e, sc => by
    rw [cins] at h
    rw [exB]
    split
    · exact ⟨sc, end_long⟩
    · exact fin_bind (finS hc s h.1 _ sc) (finB hc r h.2)
end
end
theorem fin_back {e : Ev} {r : EvR} (h : EvFin r) : EvFin (back e r) := by
  cases r with
  | ok _ => exact h
  | stop _ _ => exact h
  | bad => exact h.elim
theorem finD {subs : List Sub} {N : List Str} (hN : ∀ x ∈ N, ∃ sb, subOf x subs = some sb ∧ cins N sb.body) : ∀ (d : Nat) (b : List Stm), cins N b → ∀ e, Sc e.moves → EvFin (exD subs d b e)
  | 0, b, h, e, sc => finB (subs := subs) (g := none) (N := N) (fun x hx es e _ sc => by unfold exC; exact ⟨sc, end_deep⟩) b h e sc
  | d + 1, b, h, e, sc => finB (subs := subs) (g := some (exD subs d)) (N := N) (fun x hx es e hs sc => by
      obtain ⟨sb, h1, h2⟩ := hN x hx
      unfold exC
      dsimp only
      rw [h1]
      dsimp only
      cases hr : recks (look e.env) es with
      | error dd => exact ⟨sc, end_recks hs hr⟩
      | ok ns => exact fin_back (finD hN d sb.body h2 _ sc)) b h e sc
theorem EvFin.nb {r : EvR} (h : EvFin r) : r ≠ .bad := fun e => by rw [e] at h; exact h
theorem EvFin.res {r : EvR} (h : EvFin r) : Sc (evRes r).1 ∧ EndOk (evRes r).2 := by
  cases r with
  | ok e => exact ⟨h, end_done⟩
  | stop e d => exact h
  | bad => exact h.elim
end Car

set_option maxHeartbeats 1000000
seal L2.PE L2.PT L2.PW L2.PA L2.PS L2.PSs L2.PG L2.PGs L2.PI L2.PSet L2.PC L2.OpR L2.UnR L2.CallR L2.TruR L2.IxR L2.SlR L2.PO L2.InOp L2.PX L2.PIfs
namespace Car
open PySem L2
noncomputable abbrev sNext : Stmt := top 18
noncomputable def deckV (L : Addr) (at_ b mx : Int) : List V := [.ref L, .int at_, .int b, .int mx]
section
variable {P : Program} {w : World} {K : PySem.W.Frag} {mg : Str → Option Value} {base : Heap} {f : Addr} {fd' : FuncData}
noncomputable def spNext : Sp := fun vs H Q _ => ∃ (D L : Addr) (ns : List Int) (at_ b mx : Int), vs = [.ref D] ∧ H D = some (.lst (deckV L at_ b mx)) ∧ H L = some (.lst (ns.map V.int)) ∧ 0 ≤ at_ ∧ at_ ≤ 1000000 ∧ ns.length ≤ 63 ∧
  ∀ (n : Int) (H' : Hp), 0 ≤ n → n < 2147483647 → Same (upd H D (.lst (deckV L (at_ + 1) b mx))) H' → Q (.int n) H'
theorem scNext : FnScope ["deck", "at", "many", "cell", "j", "number"] ["deck"] (defScope sNext) := ⟨rfl, rfl, rfl, by decide +kernel, rfl, by decide +kernel, by decide +kernel⟩
theorem ok_next (T : LawT mg) (F : Fun K "_law_next" "_law_next" sNext f fd') : FnOk P w K mg base (CX1 P w) 1 f fd' ["deck"] spNext := by
  have nd := scNext.nd
  refine F.ok1 scNext (fun vs H Q E h => ?_) (fun cdv A outer s H vs Q E hr h => ?_)
  · obtain ⟨D, L, ns, at_, b, mx, rfl, _⟩ := h
    rfl
  obtain ⟨D, L, ns, at_, b, mx, rfl, hD, hL, a0, a1, nl, q⟩ := h
  refine ⟨_, (pss_cons (ps_set (i := 1) nd rfl (Or.inl rfl) (pe_ix (ix_listK (K := K) rfl) (pv 0) pe_int (fun _ _ => rfl)))
    (pss_cons (ps_asg (pe_op op_add (pv 1) pe_int) (pg_sub (pv 0) pe_int set_list))
    (pss_cons (ps_set (i := 2) nd rfl (Or.inl rfl) (pe_callB (call_max2 rfl) rfl T.max bt_max (pa_cons pe_int (pa_cons (pe_callB call_len_seq rfl T.len PySem.boot_len (pa_cons (pe_ix (ix_listK (K := K) rfl) (pv 0) pe_int (fun _ _ => rfl)) pa_nil)) pa_nil))))
    (pss_cons (ps_set (i := 3) nd rfl (Or.inl rfl) pe_int)
    (pss_mid (ps_if (pt_cmpR (op_neD hr.units) (pe_ix (ix_listK (K := K) rfl) (pv 0) pe_int (fun _ _ => rfl)) (pe_lst pa_nil) (nomark _)) (pss_one (ps_set (i := 3) nd rfl (Or.inl rfl) (pe_ix (ix_listK (K := K) rfl) (pe_ix (ix_listK (K := K) rfl) (pv 0) pe_int (fun _ _ => rfl)) (pe_op op_mod (pv 1) (pv 2)) (fun _ _ => rfl)))) pss_nil)
    (pss_cons (ps_if (pt_cmpR op_eq (pe_ix (ix_listK (K := K) rfl) (pv 0) pe_int (fun _ _ => rfl)) pe_int (nomark _)) (pss_cons (ps_for own1 rfl (pi_range1 rfl T.range (pa_cons (pe_callB (call_min2 rfl) rfl T.min bt_min (pa_cons pe_int (pa_cons (pe_op op_fdiv (pv 1) (pv 2)) pa_nil))) pa_nil)) (pg_name (i := 4) nd rfl (Or.inl rfl)) (pss_one (ps_set (i := 3) nd rfl (Or.inl rfl) (pe_op op_fdiv64 (pv 3) pe_int))))
    (pss_one (ps_ret (pe_op op_mod (pv 3) pe_int)))) pss_nil)
    (pss_cons (ps_set (i := 5) nd rfl (Or.inl rfl) (pe_op op_mod (pe_op op_add (pe_op op_add (pe_op op_mod (pv 3) pe_int) (pe_op op_mul (pe_op op_mul pe_int (pe_op op_add (pv 1) pe_int)) (pe_op op_add (pv 1) pe_int))) pe_int) pe_int))
    (pss_cons (ps_set (i := 5) nd rfl (Or.inl rfl) (pe_op op_mod (pe_op op_mul (pv 5) (pv 5)) pe_int))
    (pss_one (ps_ret (pe_op op_mod (pe_op op_mul (pv 5) pe_int) pe_int))))))))))), ?_⟩
  refine ⟨_, rfl, D, _, 1, .int at_, rfl, rfl, SqL.of hD, rfl, ?_⟩
  refine ⟨_, rfl, _, _, rfl, rfl, _, rfl, D, _, 1, 1, rfl, rfl, hD, rfl, ?_⟩
  have nLD : L ≠ D := fun z => by
    rw [z, hD] at hL
    cases ns <;> cases hL
  have hD1 : upd H D (.lst (deckV L (at_ + 1) b mx)) D = some (.lst (deckV L (at_ + 1) b mx)) := upd_same
  have hL1 : upd H D (.lst (deckV L (at_ + 1) b mx)) L = some (.lst (ns.map V.int)) := by rw [upd_ne nLD]; exact hL
  change tSeq _ _ _ _ (upd H D (.lst (deckV L (at_ + 1) b mx)))
  generalize upd H D (.lst (deckV L (at_ + 1) b mx)) = H1 at q hD1 hL1 ⊢
  refine ⟨_, rfl, D, _, 0, .ref L, rfl, rfl, SqL.of hD1, rfl, L, _, rfl, .inl (SqL.of hL1), _, _, rfl, ?_⟩
  rw [List.length_map]
  obtain ⟨mn, hmn⟩ : ∃ mn : Int, (if (ns.length : Int) > 1 then (ns.length : Int) else 1) = mn := ⟨_, rfl⟩
  rw [hmn]
  have mn1 : (1 ≤ mn ∧ mn ≤ 63) ∧ (ns ≠ [] → mn = (ns.length : Int)) := by
    rw [← hmn]
    constructor
    · split <;> (first | lia | omega)
    · intro h
      have := List.length_pos_iff.mpr h
      split <;> (first | lia | omega)
  refine ⟨fun σ H2 => ∃ c : Int, σ = [some (.ref D), some (.int at_), some (.int mn), some (.int c), none, none] ∧ Same H1 H2, ?_, ?_⟩
  · refine ⟨_, rfl, D, _, 0, .ref L, rfl, rfl, SqL.of hD1, rfl, Nat.zero_le _, fun T1 hT1 => ?_⟩
    have u1 := same_upd hT1 (.lst [])
    refine ⟨_, _, Rp.lst (SqL.of (u1 _ _ hL1)) (Rps.ints ns), Rp.lst (SqL.of upd_same) .nil, shaped_ints ns, by decide +kernel, _, rfl, ?_⟩
    generalize upd H1 T1 (.lst []) = H2 at u1 ⊢
    cases ns with
    | nil => exact iteF ⟨0, rfl, u1⟩
    | cons n0 nr =>
      have e : PyData.eqv (.list ((n0 :: nr).map PyData.int)) (.list []) = false := by rw [List.map_cons, PyData.eqv, PyData.eqvAll]
      rw [e]
      have hm := mn1.2 (by simp)
      have bm := mod_lt at_ (show 0 < mn by (first | lia | omega))
      obtain ⟨v, hv, hvm⟩ := at_mem (xs := (n0 :: nr).map V.int) (i := at_ % mn) bm.1 (by rw [List.length_map, ← hm]; exact bm.2)
      obtain ⟨c, hc, rfl⟩ := List.mem_map.mp hvm
      exact iteT ⟨_, rfl, D, _, 0, .ref L, rfl, rfl, SqL.of (u1 _ _ hD1), rfl, _, rfl, _, rfl, _, _, rfl, rfl, (by show 0 < mn; (first | lia | omega)), L, _, _, .int c, rfl, rfl, SqL.of (u1 _ _ hL1), hv, c, rfl, u1⟩
  rintro σ H2 ⟨c, rfl, s2⟩
  have dv : 0 ≤ at_ / mn := Int.ediv_nonneg a0 (by (first | lia | omega))
  refine ⟨_, rfl, D, _, 3, .int mx, rfl, rfl, SqL.of (s2 _ _ hD1), rfl, rfl, _, rfl, ?_⟩
  refine ite2 (fun _ => ?_) (fun _ => ?_)
  · refine ⟨_, rfl, _, rfl, _, _, rfl, rfl, ⟨by (first | lia | omega), by (first | lia | omega)⟩, _, _, rfl, _, rfl, ?_, ?_, ?_⟩
    · split <;> (first | lia | omega)
    · split <;> (first | lia | omega)
    refine for_range (fun i σ H3 => H3 = H2 ∧ ∃ (c : Int) (j : Option V), σ = [some (.ref D), some (.int at_), some (.int mn), some (.int c), j, none]) ⟨rfl, _, none, rfl⟩ ?_ ?_
    · rintro i σ H3 hi ⟨rfl, c, j, rfl⟩
      exact ⟨_, rfl, _, _, rfl, rfl, ⟨by decide, by decide⟩, rfl, _, _, rfl⟩
    · rintro σ H3 ⟨rfl, c, j, rfl⟩
      refine ⟨_, rfl, _, _, rfl, rfl, (by show (0 : Int) < 2147483647; decide), ?_⟩
      exact q _ _ (mod_lt _ (by decide)).1 (mod_lt _ (by decide)).2 s2
  · refine ⟨_, rfl, _, _, rfl, rfl, (by show (0 : Int) < 2147483629; decide), _, rfl, _, _, rfl, rfl, _, _, rfl, rfl, .inl ⟨by decide, by decide⟩, _, rfl, _, _, rfl, rfl, _, _, rfl, rfl, .inr ⟨by (first | lia | omega), by (first | lia | omega)⟩, _, _, rfl, rfl, _, _, rfl, rfl, _, _, rfl, rfl, (by show (0 : Int) < 2147483629; decide), ?_⟩
    have b1 := mod_lt (c % 2147483629 + 40507 * (at_ + 1) * (at_ + 2) + 977) (show (0 : Int) < 2147483629 by decide)
    refine ⟨_, rfl, _, rfl, _, _, rfl, rfl, .inl ⟨by (first | lia | omega), by (first | lia | omega)⟩, _, _, rfl, rfl, (by show (0 : Int) < 2147483587; decide), ?_⟩
    refine ⟨_, rfl, _, _, rfl, rfl, .inr ⟨by decide, by decide⟩, _, _, rfl, rfl, (by show (0 : Int) < 2147483647; decide), ?_⟩
    exact q _ _ (mod_lt _ (by decide)).1 (mod_lt _ (by decide)).2 s2
end
end Car

set_option maxHeartbeats 1000000
namespace Car
open PySem L2
noncomputable abbrev sExpr : Stmt := top 19
noncomputable def Dk (D L : Addr) (n : Nat) (H : Hp) : Prop := ∃ (ns : List Int) (at_ b mx : Int), H D = some (.lst (deckV L at_ b mx)) ∧ H L = some (.lst (ns.map V.int)) ∧ ns.length ≤ 63 ∧ 0 ≤ at_ ∧ at_ + n ≤ 1000000
structure Gw (D : Addr) (H H' : Hp) : Prop where
  b : Same (L2.drop H D) (L2.drop H' D)
  d0 : ∃ o, H D = some o
  d1 : ∃ o, H' D = some o
theorem Dk.same {D L : Addr} {n : Nat} {H H' : Hp} (h : Dk D L n H) (s : Same H H') : Dk D L n H' := by
  obtain ⟨ns, a, b, mx, h1, h2, h3⟩ := h
  exact ⟨ns, a, b, mx, s _ _ h1, s _ _ h2, h3⟩
theorem Dk.le {D L : Addr} {n m : Nat} {H : Hp} (h : Dk D L n H) (e : m ≤ n) : Dk D L m H := by
  obtain ⟨ns, a, b, mx, h1, h2, h3, h4, h5⟩ := h
  exact ⟨ns, a, b, mx, h1, h2, h3, h4, by (first | lia | omega)⟩
theorem Dk.some {D L : Addr} {n : Nat} {H : Hp} (h : Dk D L n H) : ∃ o, H D = some o := by
  obtain ⟨ns, a, b, mx, h1, _⟩ := h
  exact ⟨_, h1⟩
theorem Gw.at {D : Addr} {H H' : Hp} (g : Gw D H H') {t : Addr} {o : HO} (n : t ≠ D) (e : H t = Option.some o) : H' t = Option.some o := same_drop.mp g.b t o n e
theorem Gw.trans {D : Addr} {H H1 H2 : Hp} (g : Gw D H H1) (g' : Gw D H1 H2) : Gw D H H2 := ⟨g.b.trans g'.b, g.d0, g'.d1⟩
theorem Gw.free {D : Addr} {H H' : Hp} (g : Gw D H H') {t : Addr} (h : H' t = none) : H t = none := by
  by_cases z : t = D
  · obtain ⟨o, e⟩ := g.d1
    rw [z, e] at h
    cases h
  · cases e : H t with
    | none => rfl
    | some o => rw [g.at z e] at h; cases h
theorem Gw.ne {D : Addr} {H H' : Hp} (g : Gw D H H') {t : Addr} (h : H t = none) : t ≠ D := fun z => by
  obtain ⟨o, e⟩ := g.d0
  rw [z, e] at h
  cases h
theorem Gw.old {D : Addr} {H H1 H2 : Hp} (g : Gw D H H1) (g' : Gw D H1 H2) : Same (new H H1) (new H H2) := fun t o e => by
  obtain ⟨a, b⟩ := new_inv e
  exact new_at a (g'.at (g.ne a) b)
theorem Gw.young {D : Addr} {H H1 H2 : Hp} (g : Gw D H H1) : Same (new H1 H2) (new H H2) := fun t o e => by
  obtain ⟨a, b⟩ := new_inv e
  exact new_at (g.free a) b
theorem Dk.gw {D L : Addr} {n : Nat} {H H' : Hp} (h : Dk D L n H) (s : Same H H') : Gw D H H' := ⟨s.drop D, h.some, (h.same s).some⟩
theorem Dk.rf {D L : Addr} {n : Nat} {H : Hp} (h : Dk D L n H) : Gw D H H := ⟨Same.refl _, h.some, h.some⟩
theorem Dk.neL {D L : Addr} {H : Hp} {at_ b mx : Int} {ns : List Int} (hD : H D = Option.some (.lst (deckV L at_ b mx))) (hL : H L = Option.some (.lst (ns.map V.int))) : L ≠ D := fun z => by
  rw [z, hD] at hL
  cases ns <;> cases hL
theorem pickS {xs : List Str} {i : Int} (h0 : 0 ≤ i) (h : i < (xs.length : Int)) : ∃ s ∈ xs, atI (xs.map V.str) i = some (.str s) := by
  obtain ⟨v, hv, hm⟩ := at_mem (xs := xs.map V.str) h0 (by rw [List.length_map]; exact h)
  obtain ⟨s, hs, rfl⟩ := List.mem_map.mp hm
  exact ⟨s, hs, hv⟩
theorem pickI {xs : List Int} {i : Int} (h0 : 0 ≤ i) (h : i < (xs.length : Int)) : ∃ s ∈ xs, atI (xs.map V.int) i = some (.int s) := by
  obtain ⟨v, hv, hm⟩ := at_mem (xs := xs.map V.int) h0 (by rw [List.length_map]; exact h)
  obtain ⟨s, hs, rfl⟩ := List.mem_map.mp hm
  exact ⟨s, hs, hv⟩
theorem le0 : 0 ≤ sizeLine := by decide
theorem le1 : 1 ≤ sizeLine := by decide
theorem le2 : 2 ≤ sizeLine := by decide
theorem le3 : 3 ≤ sizeLine := by decide
theorem le4 : 4 ≤ sizeLine := by decide
theorem le5 : 5 ≤ sizeLine := by decide
theorem le6 : 6 ≤ sizeLine := by decide
theorem le7 : 7 ≤ sizeLine := by decide
section
variable {P : Program} {w : World} {K : PySem.W.Frag} {mg : Str → Option Value} {base : Heap} {f : Addr} {fd' : FuncData}
noncomputable def spDraw : Sp := fun vs H Q _ => ∃ (D L : Addr) (n : Nat), vs = [.ref D] ∧ Dk D L (n + 1) H ∧ ∀ (z : Int) (H' : Hp), 0 ≤ z → z < 2147483647 → Gw D H H' → Dk D L n H' → Q (.int z) H'
theorem draw_of (F : Fn P w K mg base "_law_next" 1 ["deck"] spNext) : Fn P w K mg base "_law_next" 1 ["deck"] spDraw := by
  obtain ⟨f, fd, ok, r⟩ := F.ex
  refine ⟨f, fd, ok.imp fun vs H Q E ⟨D, L, n, e, dk, q⟩ => ?_, r⟩
  obtain ⟨ns, at_, b, mx, hD, hL, h1, h2, h3⟩ := dk
  refine ⟨D, L, ns, at_, b, mx, e, hD, hL, h2, by (first | lia | omega), h1, fun z H' z0 z1 s => q z H' z0 z1 ?_ ?_⟩
  · exact ⟨fun t o e => by
      have n : t ≠ D := fun z => by rw [z, drop_same] at e; cases e
      rw [drop_ne n] at e ⊢
      exact s _ _ (by rw [upd_ne n]; exact e), ⟨_, hD⟩, ⟨_, s _ _ upd_same⟩⟩
  · exact ⟨ns, at_ + 1, b, mx, s _ _ upd_same, s _ _ (by rw [upd_ne (Dk.neL hD hL)]; exact hL), h1, by (first | lia | omega), by (first | lia | omega)⟩
noncomputable def exN : Nat → Nat
  | 0 => 1
  | k + 1 => 1 + (exN k + exN k)
theorem exN_pos : ∀ k, 1 ≤ exN k
  | 0 => Nat.le_refl _
  | k + 1 => by rw [exN]; (first | lia | omega)
noncomputable def spEx (K : PySem.W.Frag) (k : Nat) : Sp := fun vs H Q _ => ∃ (D L : Addr) (n : Nat), vs = [.ref D, .int k] ∧ Dk D L (n + exN k) H ∧ ∀ (v : V) (e : Ex) (H' : Hp), Gw D H H' → Dk D L n H' → Rp K (new H H') v e.dat → e.ok → e.deep ≤ k → e.sok → Q v H'
theorem scExpr : FnScope ["deck", "deep", "number", "kind", "one", "other", "few"] ["deck", "deep"] (defScope sExpr) := ⟨rfl, rfl, rfl, by decide +kernel, rfl, by decide +kernel, by decide +kernel⟩
theorem sign_in {s : Str} (h : s ∈ (["+", "-", "*", "+"] : List Str)) : s = "+" ∨ s = "-" ∨ s = "*" := by
  have h' : s = "+" ∨ s = "-" ∨ s = "*" ∨ s = "+" := by simpa using h
  rcases h' with h | h | h | h
  · exact .inl h
  · exact .inr (.inl h)
  · exact .inr (.inr h)
  · exact .inl h
theorem nm_ok {s : Str} (h : s ∈ (["a", "b", "c", "k"] : List Str)) : PyData.strOk s = true := by
  have h' : s = "a" ∨ s = "b" ∨ s = "c" ∨ s = "k" := by simpa using h
  rcases h' with rfl | rfl | rfl | rfl <;> decide +kernel
theorem ok_ex1 {k : Nat} (FN : Fn P w K mg base "_law_next" 1 ["deck"] spDraw) (FR : Fn P w K mg base "_law_expression" (k + 1) ["deck", "deep"] (fun vs H Q E => ∃ m, m + 1 = k ∧ spEx K m vs H Q E)) (F : Fun K "_law_expression" "_law_expression" sExpr f fd') :
    FnOk P w K mg base (CX1 P w) (k + 2) f fd' ["deck", "deep"] (spEx K k) := by
  have nd := scExpr.nd
  refine F.ok1 scExpr (fun vs H Q E h => ?_) (fun cdv A outer s H vs Q E hr h => ?_)
  · obtain ⟨D, L, n, rfl, _⟩ := h
    rfl
  obtain ⟨D, L, n, rfl, dk, q⟩ := h
  have hr1 : Room 1 _ := hr.mono (show 1 ≤ k + 1 by (first | lia | omega))
  refine ⟨_, (pss_cons (ps_set (i := 2) nd rfl (Or.inl rfl) (pf_call FN hr1 rfl (pass1 (E := E)) (pa_cons (pv 0) pa_nil)))
    (pss_cons (ps_set (i := 3) nd rfl (Or.inl rfl) (pe_op op_mod (pv 2) pe_int))
    (pss_mid (ps_if (PW.pt (pw_and (pt_cmpR op_gt (pv 1) pe_int (nomark _)) (pw_and1 (pt_cmpR op_gt (pv 3) pe_int (nomark _))))) (pss_cons (ps_set (i := 4) nd rfl (Or.inl rfl) (pf_call FR hr rfl (pass1 (E := E)) (pa_cons (pv 0) (pa_cons (pe_op op_sub (pv 1) pe_int) pa_nil))))
    (pss_cons (ps_set (i := 5) nd rfl (Or.inl rfl) (pf_call FR hr rfl (pass1 (E := E)) (pa_cons (pv 0) (pa_cons (pe_op op_sub (pv 1) pe_int) pa_nil))))
    (pss_one (ps_ret (pe_tup (pa_cons (pe_ix (ix_listK (K := K) rfl) (pe_lst (pa_cons pe_str (pa_cons pe_str (pa_cons pe_str (pa_cons pe_str pa_nil))))) (pe_op op_mod (pe_op op_fdiv (pv 2) pe_int) pe_int) (fun _ _ => rfl)) (pa_cons (pv 4) (pa_cons (pv 5) pa_nil)))))))) pss_nil)
    (pss_cons (ps_if (pt_cmpR op_eq (pe_op op_mod (pv 3) pe_int) pe_int (nomark _)) (pss_one (ps_ret (pe_tup (pa_cons pe_str (pa_cons (pe_ix (ix_listK (K := K) rfl) (pe_lst (pa_cons pe_str (pa_cons pe_str (pa_cons pe_str (pa_cons pe_str pa_nil))))) (pe_op op_mod (pe_op op_fdiv (pv 2) pe_int) pe_int) (fun _ _ => rfl)) pa_nil))))) pss_nil)
    (pss_cons (ps_set (i := 6) nd rfl (Or.inl rfl) (pe_lst (pa_cons (pe_op op_mod (pe_op op_fdiv (pv 2) pe_int) pe_int) (pa_cons (pe_op op_mod (pe_op op_fdiv (pv 2) pe_int) pe_int) (pa_cons (pe_op op_sub pe_int (pe_op op_mod (pe_op op_fdiv (pv 2) pe_int) pe_int)) pa_nil)))))
    (pss_one (ps_ret (pe_tup (pa_cons pe_str (pa_cons (pe_ix (ix_listK (K := K) rfl) (pv 6) (pe_ix (ix_listK (K := K) rfl) (pe_lst (pa_cons pe_int (pa_cons pe_int (pa_cons pe_int (pa_cons pe_int (pa_cons pe_int (pa_cons pe_int (pa_cons pe_int pa_nil)))))))) (pe_op op_mod (pe_op op_fdiv (pv 2) pe_int) pe_int) (fun _ _ => rfl)) (fun _ _ => rfl)) pa_nil)))))))))), ?_⟩
  have hc := exN_pos k
  refine ⟨_, rfl, D, L, n + (exN k - 1), rfl, dk.le (by (first | lia | omega)), fun z H1 z0 z1 g1 d1 => ?_⟩
  refine ⟨_, rfl, _, _, rfl, rfl, (by show (0 : Int) < 7; decide), ?_⟩
  refine ⟨fun σ H2 => σ = [some (.ref D), some (.int k), some (.int z), some (.int (z % 7)), none, none, none] ∧ H2 = H1, ?_, ?_⟩
  · refine ⟨_, rfl, _, _, rfl, rfl, _, rfl, ?_⟩
    refine ite2 (fun c1 => ?_) (fun _ => iteF ⟨rfl, rfl⟩)
    have c1' : (0 : Int) < k := of_decide_eq_true c1
    refine ⟨_, rfl, _, _, rfl, rfl, _, rfl, ?_⟩
    refine ite2 (fun _ => ?_) (fun _ => ⟨rfl, rfl⟩)
    obtain ⟨m, rfl⟩ : ∃ m, k = m + 1 := ⟨k - 1, by (first | lia | omega)⟩
    rw [exN] at d1
    have em : ((m + 1 : Nat) : Int) - 1 = (m : Int) := by (first | lia | omega)
    refine ⟨_, rfl, _, rfl, _, _, rfl, rfl, m, rfl, D, L, n + exN m, congrArg (fun i => [V.ref D, V.int i]) em, d1.le (by (first | lia | omega)), fun v1 e1 H2 g2 d2 r1 k1 p1 o1 => ?_⟩
    refine ⟨_, rfl, _, rfl, _, _, rfl, rfl, m, rfl, D, L, n, congrArg (fun i => [V.ref D, V.int i]) em, d2, fun v2 e2 H3 g3 d3 r2 k2 p2 o2 => ?_⟩
    have mz := mod_lt (z / 7) (show (0 : Int) < 4 by decide)
    obtain ⟨sg, hsg, hat⟩ := pickS (xs := ["+", "-", "*", "+"]) mz.1 mz.2
    refine ⟨le4, fun l hl => ⟨_, rfl, _, _, rfl, rfl, ⟨by decide, by decide⟩, _, _, rfl, rfl, (by show (0 : Int) < 4; decide), l, _, _, .str sg, rfl, rfl, SqL.of upd_same, hat, _, rfl, _, rfl, le3, fun t ht => ?_⟩⟩
    have u1 := same_upd hl (.lst [V.str "+", .str "-", .str "*", .str "+"])
    have u2 := same_upd ht (.tup [V.str sg, v1, v2])
    have g4 := d3.gw (u1.trans u2)
    have g12 := g1.trans g2
    have g13 := g12.trans g3
    have g14 := g13.trans g4
    refine q _ (.bin sg e1 e2) _ g14 (d3.same (u1.trans u2)) ?_ ⟨sign_in hsg, k1, k2⟩ (by rw [Ex.deep]; (first | lia | omega)) ⟨o1, o2⟩
    exact .tup (SqT.of (new_at (g13.free (u1.free ht)) upd_same)) (.cons (.str _) (.cons (r1.same (g1.young.trans (g12.old (g3.trans g4)))) (.cons (r2.same (g12.young.trans (g13.old g4))) .nil)))
  rintro σ H2 ⟨rfl, rfl⟩
  have d1' := d1.le (show n ≤ n + (exN k - 1) by (first | lia | omega))
  refine ⟨_, rfl, _, _, rfl, rfl, (by show (0 : Int) < 2; decide), rfl, _, rfl, ?_⟩
  refine ite2 (fun _ => ?_) (fun _ => ?_)
  · have mz := mod_lt (z / 7) (show (0 : Int) < 4 by decide)
    obtain ⟨sg, hsg, hat⟩ := pickS (xs := ["a", "b", "c", "k"]) mz.1 mz.2
    refine ⟨le4, fun l hl => ⟨_, rfl, _, _, rfl, rfl, ⟨by decide, by decide⟩, _, _, rfl, rfl, (by show (0 : Int) < 4; decide), l, _, _, .str sg, rfl, rfl, SqL.of upd_same, hat, le2, fun t ht => ?_⟩⟩
    have u1 := same_upd hl (.lst [V.str "a", .str "b", .str "c", .str "k"])
    have u2 := same_upd ht (.tup [V.str "name", .str sg])
    have g4 := d1.gw (u1.trans u2)
    exact q _ (.nam sg) _ (g1.trans g4) (d1'.same (u1.trans u2)) (.tup (SqT.of (new_at (g1.free (u1.free ht)) upd_same)) (.cons (.str _) (.cons (.str _) .nil))) True.intro (Nat.zero_le _) (nm_ok hsg)
  · refine ⟨_, rfl, _, _, rfl, rfl, ⟨by decide, by decide⟩, _, _, rfl, rfl, (by show (0 : Int) < 6; decide), _, rfl, _, _, rfl, rfl, ⟨by decide, by decide⟩, _, _, rfl, rfl, (by show (0 : Int) < 60; decide), _, rfl, _, _, rfl, rfl, ⟨by decide, by decide⟩, _, _, rfl, rfl, (by show (0 : Int) < 3; decide), _, _, rfl, rfl, le3, fun l hl => ?_⟩
    have u1 := same_upd hl (.lst ([z / 56 % 6, z / 56 % 60, 99999 - z / 56 % 3].map V.int))
    have mz := mod_lt (z / 8) (show (0 : Int) < 7 by decide)
    obtain ⟨j, hj, hat⟩ := pickI (xs := [0, 0, 0, 0, 1, 1, 2]) mz.1 mz.2
    have hj' : 0 ≤ j ∧ j < 3 := by
      have : j = 0 ∨ j = 1 ∨ j = 2 := by simpa using hj
      (first | lia | omega)
    obtain ⟨x, hx, hax⟩ := pickI (xs := [z / 56 % 6, z / 56 % 60, 99999 - z / 56 % 3]) hj'.1 hj'.2
    refine ⟨_, rfl, le7, fun l2 hl2 => ⟨_, rfl, _, _, rfl, rfl, ⟨by decide, by decide⟩, _, _, rfl, rfl, (by show (0 : Int) < 7; decide), l2, _, _, .int j, rfl, rfl, SqL.of upd_same, hat, l, _, _, .int x, rfl, rfl, SqL.of (same_upd hl2 _ _ _ upd_same), hax, le2, fun t ht => ?_⟩⟩
    have u2 := same_upd hl2 (.lst [V.int 0, .int 0, .int 0, .int 0, .int 1, .int 1, .int 2])
    have u3 := same_upd ht (.tup [V.str "number", .int x])
    have g4 := d1.gw (u1.trans (u2.trans u3))
    exact q _ (.num x) _ (g1.trans g4) (d1'.same (u1.trans (u2.trans u3))) (.tup (SqT.of (new_at (g1.free (u1.free (u2.free ht))) upd_same)) (.cons (.str _) (.cons (.int _) .nil))) True.intro (Nat.zero_le _) True.intro
theorem ok_ex (FN : Fn P w K mg base "_law_next" 1 ["deck"] spDraw) (hm : mg "_law_expression" = some (.ref f)) (kp : PySem.W.keepIn K (.ref f) = true) (bi : Binds K fd' ["deck", "deep"] []) (F : Fun K "_law_expression" "_law_expression" sExpr f fd') : ∀ k, Fn P w K mg base "_law_expression" (k + 2) ["deck", "deep"] (spEx K k)
  | 0 => ⟨f, fd', ok_ex1 FN ⟨f, fd', ⟨fun vs H Q E ⟨m, hm, _⟩ => absurd hm (by (first | lia | omega)), fun _ _ _ _ _ _ _ _ _ _ _ _ _ ⟨m, hm, _⟩ => absurd hm (by (first | lia | omega))⟩, hm, kp, bi⟩ F, hm, kp, bi⟩
  | k + 1 => by
    obtain ⟨f0, fd0, ok0, hm0, kp0, bi0⟩ := (ok_ex FN hm kp bi F k).ex
    exact ⟨f, fd', ok_ex1 FN ⟨f0, fd0, ok0.imp fun vs H Q E ⟨m, e, h⟩ => (by have z : m = k := (by (first | lia | omega)); subst z; exact h), hm0, kp0, bi0⟩ F, hm, kp, bi⟩
end
end Car

set_option maxHeartbeats 1000000
namespace Car
open PySem L2
noncomputable abbrev sLets : Stmt := top 20
noncomputable def nw (H H' : Hp) (R : Addr) : Hp := L2.drop (new H H') R
theorem nw_upd {H H' : Hp} {R : Addr} {o : HO} : nw H (upd H' R o) R = nw H H' R := by
  funext b
  unfold nw
  by_cases h : b = R
  · rw [h, drop_same, drop_same]
  · rw [drop_ne h, drop_ne h]
    unfold new
    rw [upd_ne h]
theorem nw_at {H H' : Hp} {R t : Addr} {o : HO} (h : H t = none) (n : t ≠ R) (e : H' t = some o) : nw H H' R t = some o := by
  unfold nw
  rw [drop_ne n]
  exact new_at h e
theorem nw_le {H H' : Hp} {R : Addr} : Same (nw H H' R) (new H H') := drop_le
theorem Gw.oldR {D R : Addr} {H H1 H2 : Hp} (g : Gw D H H1) (g' : Gw D H1 H2) : Same (nw H H1 R) (nw H H2 R) := (g.old g').drop R
theorem Gw.youngR {D R : Addr} {o : HO} {H H1 H2 : Hp} (g : Gw D H H1) (hR : H1 R = some o) : Same (new H1 H2) (nw H H2 R) := fun t u e => by
  obtain ⟨a, b⟩ := new_inv e
  exact nw_at (g.free a) (fun z => by rw [z, hR] at a; cases a) b
theorem Gw.inR {D R : Addr} {o : HO} {H H' : Hp} (g : Gw D H H') (hR : H R = none) : Gw D H (upd H' R o) := by
  have n := g.ne hR
  refine ⟨fun t u e => ?_, g.d0, ?_⟩
  · have nt : t ≠ D := fun z => by rw [z, drop_same] at e; cases e
    have := g.b t u e
    rw [drop_ne nt] at e this ⊢
    rw [upd_ne (fun z => by rw [z, hR] at e; cases e)]
    exact this
  · obtain ⟨o', h⟩ := g.d1
    exact ⟨o', by rw [upd_ne (Ne.symm n)]; exact h⟩
theorem Dk.inR {D L R : Addr} {o : HO} {n m : Nat} {H H' : Hp} (h : Dk D L n H') (h0 : Dk D L m H) (hR : H R = none) : Dk D L n (upd H' R o) := by
  obtain ⟨ns, a, b, mx, h1, h2, h3⟩ := h
  obtain ⟨ns', a', b', mx', k1, k2, _⟩ := h0
  exact ⟨ns, a, b, mx, by rw [upd_ne (fun z => by rw [z, hR] at k1; cases k1)]; exact h1, by rw [upd_ne (fun z => by rw [z, hR] at k2; cases k2)]; exact h2, h3⟩
theorem rps_snoc {K : PySem.W.Frag} {H : Hp} : ∀ {vs : List V} {ds : List PyData} {v : V} {d : PyData}, Rps K H vs ds → Rp K H v d → Rps K H (vs ++ [v]) (ds ++ [d])
  | _, _, _, _, .nil, h => .cons h .nil
  | _, _, _, _, .cons a b, h => .cons a (rps_snoc b h)
theorem str_of {hs : List Str} {i : Nat} {x : V} (hx : (hs.map V.str)[i]? = some x) : ∃ n, x = .str n := by
  rw [List.getElem?_map] at hx
  cases e : hs[i]? with
  | none => rw [e] at hx; cases hx
  | some z =>
    rw [e] at hx
    exact ⟨z, (Option.some.inj hx).symm⟩
theorem Dk.neS {D L N : Addr} {H : Hp} {n : Nat} {xs : List Str} (h : Dk D L n H) (hN : H N = Option.some (.lst (xs.map V.str))) : N ≠ D := fun z => by
  obtain ⟨ns, a, b, mx, h1, _⟩ := h
  rw [z, h1] at hN
  cases xs <;> cases hN
section
variable {P : Program} {w : World} {K : PySem.W.Frag} {mg : Str → Option Value} {base : Heap} {f : Addr} {fd' : FuncData}
noncomputable def letsB (ps : List (Str × Int)) : List Stm := ps.map fun p => .lt p.1 (.num p.2)
noncomputable def spLets (K : PySem.W.Frag) : Sp := fun vs H Q _ => ∃ (D L N : Addr) (n : Nat) (xs : List Str), vs = [.ref D, .ref N] ∧ H N = some (.lst (xs.map V.str)) ∧ xs.length ≤ 10 ∧ Dk D L (n + xs.length) H ∧
  ∀ (l : Addr) (ps : List (Str × Int)) (us : List V) (H' : Hp), ps.length = xs.length → Gw D H H' → Dk D L n H' → H l = none → H' l = some (.lst us) → Rps K (new H H') us ((letsB ps).map Stm.dat) → Q (.ref l) H'
theorem scLets : FnScope ["deck", "names"] ["deck", "names"] (defScope sLets) := ⟨rfl, rfl, rfl, by decide +kernel, rfl, by decide +kernel, by decide +kernel⟩
theorem ndnd : (["name", "deck"] : List Str).Nodup := by decide +kernel
theorem ndkd : (["k", "deck"] : List Str).Nodup := by decide +kernel
theorem ok_lets (FN : Fn P w K mg base "_law_next" 1 ["deck"] spDraw) (F : Fun K "_law_lets" "_law_lets" sLets f fd') : FnOk P w K mg base (CX1 P w) 2 f fd' ["deck", "names"] (spLets K) := by
  have nd := scLets.nd
  refine F.ok1 scLets (fun vs H Q E h => ?_) (fun cdv A outer s H vs Q E hr h => ?_)
  · obtain ⟨D, L, N, n, xs, rfl, _⟩ := h
    rfl
  obtain ⟨D, L, N, n, xs, rfl, hN, hx, dk, q⟩ := h
  refine ⟨_, (pss_one (ps_ret (pe_lc (own := ["name"]) (capn := ["deck"]) (capI := [0]) rfl (blkC (defScope sLets) rfl rfl (by decide +kernel) rfl (fun y hy => by rcases List.mem_cons.mp hy with rfl | hy; exact ⟨rfl, rfl⟩; cases hy)) (pi_list (pv 1)) (fun _ _ _ _ _ _ => pg_name (i := 0) ndnd rfl (Or.inl rfl)) (fun _ _ _ _ _ _ => pifs_nil) (fun _ _ _ _ _ _ => (pe_tup (pa_cons pe_str (pa_cons (pv 0) (pa_cons (pe_tup (pa_cons pe_str (pa_cons (pe_op op_mod (pf_call FN hr rfl passN (pa_cons (pv 1) pa_nil)) pe_int) pa_nil))) pa_nil)))))))), ?_⟩
  have nND := dk.neS hN
  refine ⟨_, rfl, N, rfl, ⟨_, SqL.of hN⟩, fun R hR => ?_⟩
  have g0 := dk.gw (same_upd hR (.lst []))
  refine ⟨Wd (xs.map V.str).length (fun i σ acc H2 => ∃ (z : Option V) (ps : List (Str × Int)), σ = [z, some (.ref D)] ∧ ps.length = i ∧ acc.length = i ∧ Rps K (nw H H2 R) acc ((letsB ps).map Stm.dat) ∧ Gw D H H2 ∧ Dk D L (n + (xs.length - i)) H2 ∧ H2 R = some (.lst acc)), wd_0 ⟨none, [], rfl, rfl, rfl, .nil, g0, dk.same (same_upd hR _), upd_same⟩, ?_⟩
  rintro i m σ acc H2 ⟨rfl, hi0, z, ps, rfl, pl, al, ra, g2, d2, hR2⟩
  refine lc_ask (K := K) (xs := xs.map V.str) (SqL.of (g2.at nND hN)) hi0 (fun x hx0 hi => ?_) (fun hend => ?_)
  · obtain ⟨nm, rfl⟩ := str_of hx0
    rw [List.length_map] at hi
    refine ⟨_, rfl, _, rfl, D, L, n + (xs.length - (i + 1)), rfl, d2.le (by (first | lia | omega)), fun y H3 y0 y1 g3 d3 => ⟨_, _, rfl, rfl, (by show (0 : Int) < 9; decide), le2, fun t1 h1 => ⟨le3, fun t2 h2 => ?_⟩⟩⟩
    have u1 := same_upd h1 (.tup [V.str "number", .int (y % 9)])
    have u2 := same_upd h2 (.tup [V.str "let", .str nm, .ref t1])
    have hR3 := g3.at (g2.ne hR) hR2
    have g4 := d3.gw (u1.trans u2)
    have g24 := g3.trans g4
    have f1 := (g2.trans g3).free h1
    have f2 := (g2.trans g3).free (u1.free h2)
    have n1 : t1 ≠ R := fun e => by rw [e, hR3] at h1; cases h1
    have n2 : t2 ≠ R := fun e => by rw [e, u1 _ _ hR3] at h2; cases h2
    refine ⟨u2 _ _ (u1 _ _ hR3), ?_, wd_next (by rw [List.length_map]; exact hi) ⟨_, ps ++ [(nm, y % 9)], rfl, by rw [List.length_append, pl]; rfl, by rw [List.length_append, al]; rfl, ?_, (g2.trans g24).inR hR, (d3.same (u1.trans u2)).inR dk hR, upd_same⟩⟩
    · rw [al]
      exact line3 (show i ≤ 10 by (first | lia | omega)) (by decide)
    · rw [nw_upd, letsB, List.map_append, List.map_append]
      refine rps_snoc (ra.same (g2.oldR g24)) ?_
      show Rp K _ _ (Stm.dat (.lt nm (.num (y % 9))))
      rw [Stm.dat]
      exact .tup (SqT.of (nw_at f2 n2 upd_same)) (.cons (.str _) (.cons (.str _) (.cons (.tup (SqT.of (nw_at f1 n1 (u2 _ _ upd_same))) (.cons (.str _) (.cons (.int _) .nil))) .nil)))
  · rw [List.length_map] at hend
    exact q R ps acc H2 (by rw [pl, hend]) g2 (d2.le (by (first | lia | omega))) hR hR2 (ra.same nw_le)
end
end Car

set_option maxHeartbeats 1000000
namespace Car
open PySem L2
noncomputable abbrev sOpened : Stmt := top 21
noncomputable abbrev sStatement : Stmt := top 22
noncomputable abbrev sBody : Stmt := top 23
noncomputable def hdD (p : Str × Int) : PyData := .tuple [.str p.1, .int p.2]
structure Hs (K : PySem.W.Frag) (D : Addr) (H : Hp) (a : Addr) (hs : List (Str × Int)) : Prop where
  r : Rp K (L2.drop H D) (.ref a) (.list (hs.map hdD))
  ok : ∀ p ∈ hs, (p.1 = "a" ∨ p.1 = "f") ∧ 0 ≤ p.2 ∧ p.2 ≤ 2
  ln : hs.length ≤ 2
theorem Hs.gw {K : PySem.W.Frag} {D a : Addr} {H H' : Hp} {hs : List (Str × Int)} (h : Hs K D H a hs) (g : Gw D H H') : Hs K D H' a hs := ⟨h.r.same g.b, h.ok, h.ln⟩
noncomputable def stN : Nat → Nat
  | 0 => 12
  | d + 1 => 20 + 8 * stN d
noncomputable def nms (hs : List (Str × Int)) : List Str := hs.map (·.1)
section
variable {P : Program} {w : World} {K : PySem.W.Frag} {mg : Str → Option Value} {base : Heap} {f : Addr} {fd' : FuncData}
noncomputable def PostS (K : PySem.W.Frag) (D L : Addr) (n : Nat) (hs : List (Str × Int)) (H : Hp) (Q : VK) : Prop := ∀ (v : V) (s : Stm) (H' : Hp), Gw D H H' → Dk D L n H' → Rp K (new H H') v s.dat → s.ok 2 → s.cin (nms hs) → Q v H'
noncomputable def spSt (K : PySem.W.Frag) (d : Nat) : Sp := fun vs H Q _ => ∃ (D L a : Addr) (n : Nat) (hs : List (Str × Int)), vs = [.ref D, .int d, .ref a] ∧ Dk D L (n + stN d) H ∧ Hs K D H a hs ∧ PostS K D L n hs H Q
noncomputable def spOp (K : PySem.W.Frag) (d : Nat) : Sp := fun vs H Q _ => ∃ (D L a : Addr) (n : Nat) (hs : List (Str × Int)) (kind : Int), vs = [.ref D, .int kind, .int (d + 1 : Nat), .ref a] ∧ Dk D L (n + (8 + 8 * stN d)) H ∧ Hs K D H a hs ∧ PostS K D L n hs H Q
noncomputable def spBo (K : PySem.W.Frag) (d : Nat) : Sp := fun vs H Q _ => ∃ (D L a : Addr) (n : Nat) (hs : List (Str × Int)) (many : Int), vs = [.ref D, .int many, .int d, .ref a] ∧ 0 ≤ many ∧ many ≤ 4 ∧ Dk D L (n + 4 * stN d) H ∧ Hs K D H a hs ∧
  ∀ (l : Addr) (us : List V) (b : List Stm) (H' : Hp), Gw D H H' → Dk D L n H' → H l = none → H' l = some (.lst us) → Rps K (new H H') us (b.map Stm.dat) → b.length ≤ 4 → oks 2 b → cins (nms hs) b → Q (.ref l) H'
theorem scOpened : FnScope ["deck", "kind", "deep", "subs", "first", "many", "second"] ["deck", "kind", "deep", "subs"] (defScope sOpened) := ⟨rfl, rfl, rfl, by decide +kernel, rfl, by decide +kernel, by decide +kernel⟩
theorem ok_op {d : Nat} (TT : LawT mg) (FN : Fn P w K mg base "_law_next" 1 ["deck"] spDraw) (FE : Fn P w K mg base "_law_expression" 3 ["deck", "deep"] (spEx K 1)) (FB : Fn P w K mg base "_law_body" (3 * d + 6) ["deck", "many", "deep", "subs"] (spBo K d)) (F : Fun K "_law_opened" "_law_opened" sOpened f fd') :
    FnOk P w K mg base (CX1 P w) (3 * d + 7) f fd' ["deck", "kind", "deep", "subs"] (spOp K d) := by
  have nd := scOpened.nd
  refine F.ok1 scOpened (fun vs H Q E h => ?_) (fun cdv A outer s H vs Q E hr h => ?_)
  · obtain ⟨D, L, a, n, hs, kind, rfl, _⟩ := h
    rfl
  obtain ⟨D, L, a, n, hs, kind, rfl, dk, hh, q⟩ := h
  have hr1 : Room 1 _ := hr.mono (show 1 ≤ 3 * d + 6 by (first | lia | omega))
  have hr3 : Room 3 _ := hr.mono (show 3 ≤ 3 * d + 6 by (first | lia | omega))
  refine ⟨_, (pss_cons (ps_set (i := 4) nd rfl (Or.inl rfl) (pf_call FB hr rfl (pass1 (E := E)) (pa_cons (pv 0) (pa_cons (pe_op op_add pe_int (pe_op op_mod (pf_call FN hr1 rfl (pass1 (E := E)) (pa_cons (pv 0) pa_nil)) pe_int)) (pa_cons (pe_op op_sub (pv 2) pe_int) (pa_cons (pv 3) pa_nil))))))
    (pss_cons (ps_if (pt_cmpR op_lt (pv 1) pe_int (nomark _)) (pss_cons (ps_set (i := 5) nd rfl (Or.inl rfl) (pe_ix (ix_listK (K := K) rfl) (pe_lst (pa_cons (pe_tup (pa_cons pe_str (pa_cons (pe_op op_mod (pf_call FN hr1 rfl (pass1 (E := E)) (pa_cons (pv 0) pa_nil)) pe_int) pa_nil))) (pa_cons (pe_tup (pa_cons pe_str (pa_cons pe_str pa_nil))) (pa_cons (pf_call FE hr3 rfl (pass1 (E := E)) (pa_cons (pv 0) (pa_cons pe_int pa_nil))) pa_nil)))) (pe_op op_mod (pf_call FN hr1 rfl (pass1 (E := E)) (pa_cons (pv 0) pa_nil)) pe_int) (fun _ _ => rfl)))
    (pss_one (ps_ret (pe_tup (pa_cons pe_str (pa_cons (pe_ix (ix_listK (K := K) rfl) (pe_lst (pa_cons pe_str (pa_cons pe_str pa_nil))) (pe_op op_mod (pv 1) pe_int) (fun _ _ => rfl)) (pa_cons (pv 5) (pa_cons (pv 4) pa_nil)))))))) pss_nil)
    (pss_cons (ps_set (i := 6) nd rfl (Or.inl rfl) (pf_call FB hr rfl (pass1 (E := E)) (pa_cons (pv 0) (pa_cons (pe_op op_mul (pe_op op_mod (pf_call FN hr1 rfl (pass1 (E := E)) (pa_cons (pv 0) pa_nil)) pe_int) (pe_callTy call_int1 rfl TT.int bt_int (pa_cons (pe_cmpR op_gt (pe_ix (ix_listK (K := K) rfl) (pv 0) pe_int (fun _ _ => rfl)) pe_int (nomark _)) pa_nil))) (pa_cons (pe_op op_sub (pv 2) pe_int) (pa_cons (pv 3) pa_nil))))))
    (pss_one (ps_ret (pe_tup (pa_cons pe_str (pa_cons (pe_ix (ix_listK (K := K) rfl) (pe_lst (pa_cons pe_str (pa_cons pe_str pa_nil))) (pe_op op_mod (pv 1) pe_int) (fun _ _ => rfl)) (pa_cons (pf_call FE hr3 rfl (pass1 (E := E)) (pa_cons (pv 0) (pa_cons pe_int pa_nil))) (pa_cons (pf_call FE hr3 rfl (pass1 (E := E)) (pa_cons (pv 0) (pa_cons pe_int pa_nil))) (pa_cons (pv 4) (pa_cons (pv 6) pa_nil)))))))))))), ?_⟩
  have em : ((d + 1 : Nat) : Int) - 1 = (d : Int) := by (first | lia | omega)
  refine ⟨_, rfl, _, rfl, D, L, n + (7 + 8 * stN d), rfl, dk.le (by (first | lia | omega)), fun z1 H1 y0 y1 g1 d1 => ⟨_, _, rfl, rfl, (by show (0 : Int) < 3; decide), _, _, rfl, rfl, _, rfl, _, _, rfl, rfl, _, rfl, D, L, a, n + (7 + 4 * stN d), hs, _, congrArg (fun i => [V.ref D, V.int (1 + z1 % 3), V.int i, V.ref a]) em, ?_, ?_, d1.le (by (first | lia | omega)), hh.gw g1, fun l1 us1 b1 H2 g2 d2 e1 e2 r1 bl1 ok1 ci1 => ?_⟩⟩
  · have := mod_lt z1 (show (0 : Int) < 3 by decide); (first | lia | omega)
  · have := mod_lt z1 (show (0 : Int) < 3 by decide); (first | lia | omega)
  have g02 := g1.trans g2
  have f1 := g1.free e1
  have rB : Rp K (new H H2) (.ref l1) (.list (b1.map Stm.dat)) := .lst (SqL.of (new_at f1 e2)) (r1.same g1.young)
  have nl1 := g1.ne f1
  have mk := mod_lt kind (show (0 : Int) < 2 by decide)
  refine ⟨_, rfl, _, _, rfl, rfl, _, rfl, ite2 (fun _ => ?_) (fun _ => ?_)⟩
  · refine ⟨_, rfl, D, L, n + (6 + 4 * stN d), rfl, d2.le (by (first | lia | omega)), fun z2 H3 _ _ g3 d3 => ⟨_, _, rfl, rfl, (by show (0 : Int) < 6; decide), le2, fun t1 h1 => ⟨le2, fun t2 h2 => ?_⟩⟩⟩
    have u1 := same_upd h1 (.tup [V.str "number", .int (z2 % 6)])
    have u2 := same_upd h2 (.tup [V.str "name", .str "a"])
    have g03 := g02.trans g3
    have d3' := d3.same (u1.trans u2)
    have g04 := g03.trans (d3.gw (u1.trans u2))
    have q1 : Rp K (new H (upd (upd H3 t1 (.tup [V.str "number", .int (z2 % 6)])) t2 (.tup [V.str "name", .str "a"]))) (.ref t1) (Ex.num (z2 % 6)).dat := .tup (SqT.of (new_at (g03.free h1) (u2 _ _ upd_same))) (.cons (.str _) (.cons (.int _) .nil))
    have q2 : Rp K (new H (upd (upd H3 t1 (.tup [V.str "number", .int (z2 % 6)])) t2 (.tup [V.str "name", .str "a"]))) (.ref t2) (Ex.nam "a").dat := .tup (SqT.of (new_at (g03.free (u1.free h2)) upd_same)) (.cons (.str _) (.cons (.str _) .nil))
    have rB4 := rB.same (g02.old (g3.trans (d3.gw (u1.trans u2))))
    generalize upd (upd H3 t1 (.tup [V.str "number", .int (z2 % 6)])) t2 (.tup [V.str "name", .str "a"]) = H4 at g04 q1 q2 rB4 d3'
    refine ⟨_, rfl, D, L, n + 1, rfl, d3'.le (by show n + 1 + 3 ≤ _; (first | lia | omega)), fun v3 e3 H5 g5 d5 r3 k3 p3 o3 => ⟨le3, fun l3 h3 => ?_⟩⟩
    have u3 := same_upd h3 (.lst [V.ref t1, .ref t2, v3])
    have d5' := d5.same u3
    have g56 := d5.gw u3
    refine ⟨_, rfl, D, L, n, rfl, d5', fun z4 H7 _ _ g7 d7 => ?_⟩
    have mz := mod_lt z4 (show (0 : Int) < 3 by decide)
    obtain ⟨v, hat, hv⟩ := at_mem (xs := [V.ref t1, .ref t2, v3]) mz.1 mz.2
    have g05 := g04.trans g5
    have g57 := g56.trans g7
    have g07 := g05.trans g57
    have g47 := g5.trans g57
    obtain ⟨e, rE, ke, pe, oe⟩ : ∃ e : Ex, Rp K (new H H7) v e.dat ∧ e.ok ∧ e.deep ≤ 2 ∧ e.sok := by
      rcases List.mem_cons.mp hv with rfl | hv
      · exact ⟨_, q1.same (g04.old g47), True.intro, Nat.zero_le _, True.intro⟩
      rcases List.mem_cons.mp hv with rfl | hv
      · exact ⟨_, q2.same (g04.old g47), True.intro, Nat.zero_le _, by show PyData.strOk "a" = true; decide +kernel⟩
      rw [List.mem_singleton.mp hv]
      exact ⟨_, r3.same (g04.young.trans (g05.old g57)), k3, by (first | lia | omega), o3⟩
    have rB7 := rB4.same (g04.old g47)
    refine ⟨_, _, rfl, rfl, (by show (0 : Int) < 3; decide), l3, _, _, v, rfl, rfl, SqL.of (g7.at (g05.ne (g05.free h3)) upd_same), hat, ?_⟩
    obtain ⟨x, hx, hax⟩ := pickS (xs := ["k", "c"]) mk.1 mk.2
    refine ⟨le2, fun l5 h5 => ⟨_, rfl, _, _, rfl, rfl, (by show (0 : Int) < 2; decide), l5, _, _, .str x, rfl, rfl, SqL.of upd_same, hax, _, rfl, _, rfl, le4, fun t6 h6 => ?_⟩⟩
    have u5 := same_upd h5 (.lst [V.str "k", .str "c"])
    have u6 := same_upd h6 (.tup [V.str "times", .str x, v, .ref l1])
    have g8 := d7.gw (u5.trans u6)
    refine q _ (.times x e b1) _ (g07.trans g8) (d7.same (u5.trans u6)) ?_ ?_ ?_
    · rw [Stm.dat, dats_map]
      exact .tup (SqT.of (new_at (g07.free (u5.free h6)) upd_same)) (.cons (.str _) (.cons (.str _) (.cons (rE.same (g07.old g8)) (.cons (rB7.same (g07.old g8)) .nil))))
    · rw [Stm.ok]
      exact ⟨ke, pe, ok1⟩
    · rw [Stm.cin]
      exact ⟨oe, ci1⟩
  · refine ⟨_, rfl, _, rfl, D, L, n + (6 + 4 * stN d), rfl, d2.le (by (first | lia | omega)), fun z2 H3 _ _ g3 d3 => ?_⟩
    have m2 := mod_lt z2 (show (0 : Int) < 3 by decide)
    obtain ⟨ns, at_, bb, mx, hD3, _⟩ := id d3
    refine ⟨_, _, rfl, rfl, (by show (0 : Int) < 3; decide), _, rfl, D, _, 2, .int bb, rfl, rfl, SqL.of hD3, rfl, _, _, rfl, rfl, .inr ⟨_, rfl, _, _, rfl, rfl, ?_, ?_⟩⟩
    · exact .inl ⟨by (first | lia | omega), by (first | lia | omega)⟩
    obtain ⟨many, hmany⟩ : ∃ many : Int, z2 % 3 * (if decide ((0 : Int) < bb) = true then 1 else 0) = many := ⟨_, rfl⟩
    have hm : 0 ≤ many ∧ many ≤ 4 := by
      rw [← hmany]
      split <;> (first | lia | omega)
    refine ⟨_, rfl, _, _, rfl, rfl, _, rfl, D, L, a, n + 6, hs, many, ?_, hm.1, hm.2, d3.le (by (first | lia | omega)), (hh.gw g02).gw g3, fun l2 us2 b2 H4 g4 d4 e3 e4 r2 bl2 ok2 ci2 => ?_⟩
    · show [V.ref D, V.int (z2 % 3 * (if decide ((0 : Int) < bb) = true then 1 else 0)), V.int (((d + 1 : Nat) : Int) - 1), V.ref a] = _
      rw [hmany, em]
    have g03 := g02.trans g3
    have g04 := g03.trans g4
    have f2 := g03.free e3
    have rC : Rp K (new H H4) (.ref l2) (.list (b2.map Stm.dat)) := .lst (SqL.of (new_at f2 e4)) (r2.same g03.young)
    have rB4 := rB.same (g02.old (g3.trans g4))
    obtain ⟨x, hx, hax⟩ := pickS (xs := ["<", "="]) mk.1 mk.2
    refine ⟨le2, fun l5 h5 => ?_⟩
    have u5 := same_upd h5 (.lst [V.str "<", .str "="])
    refine ⟨_, rfl, _, _, rfl, rfl, (by show (0 : Int) < 2; decide), l5, _, _, .str x, rfl, rfl, SqL.of upd_same, hax, ?_⟩
    have g45 := d4.gw u5
    have g05 := g04.trans g45
    have d5 := d4.same u5
    generalize upd H4 l5 (.lst [V.str "<", .str "="]) = H5 at g45 g05 d5
    refine ⟨_, rfl, D, L, n + 3, rfl, d5.le (by show n + 3 + 3 ≤ _; (first | lia | omega)), fun v6 e6 H6 g6 d6 r6 k6 p6 o6 => ⟨_, rfl, D, L, n, rfl, d6.le (by show n + 3 ≤ _; (first | lia | omega)), fun v7 e7 H7 g7 d7 r7 k7 p7 o7 => ⟨_, rfl, _, rfl, le6, fun t ht => ?_⟩⟩⟩
    have u8 := same_upd ht (.tup [V.str "if", .str x, v6, v7, .ref l1, .ref l2])
    have g78 := d7.gw u8
    have g06 := g05.trans g6
    have g07 := g06.trans g7
    refine q _ (.iff x e6 e7 b1 b2) _ (g07.trans g78) (d7.same u8) ?_ ?_ ?_
    · rw [Stm.dat, dats_map, dats_map]
      have g48 := g45.trans (g6.trans (g7.trans g78))
      exact .tup (SqT.of (new_at (g07.free ht) upd_same)) (.cons (.str _) (.cons (.str _) (.cons (r6.same (g05.young.trans (g06.old (g7.trans g78)))) (.cons (r7.same (g06.young.trans (g07.old g78))) (.cons (rB4.same (g04.old g48)) (.cons (rC.same (g04.old g48)) .nil))))))
    · rw [Stm.ok]
      exact ⟨k6, by (first | lia | omega), k7, by (first | lia | omega), ok1, ok2⟩
    · rw [Stm.cin]
      exact ⟨o6, o7, ci1, ci2⟩
end
end Car

set_option maxHeartbeats 1000000
namespace Car
open PySem L2
theorem hd_can : ∀ {hs : List (Str × Int)}, (∀ p ∈ hs, (p.1 = "a" ∨ p.1 = "f") ∧ 0 ≤ p.2 ∧ p.2 ≤ 2) → PyData.canLayAll0 (hs.map hdD) = true ∧ PyData.depthAll (hs.map hdD) ≤ 1
  | [], _ => ⟨rfl, by decide⟩
  | p :: r, h => by
    obtain ⟨c, d⟩ := hd_can (hs := r) fun x hx => h x (List.mem_cons_of_mem _ hx)
    have hp : PyData.canLay0 (hdD p) = true ∧ PyData.depth (hdD p) ≤ 1 := by
      rcases p with ⟨x, i⟩
      rcases (h _ List.mem_cons_self).1 with e | e
      · have e' : x = "a" := e
        subst e'
        refine ⟨?_, by show 1 ≤ 1; decide⟩
        rw [hdD, PyData.canLay0, PyData.canLayAll0, PyData.canLayAll0, PyData.canLayAll0, PyData.canLay0, PyData.canLay0]
        show (PyData.strOk "a" && (true && true)) = true
        decide +kernel
      · have e' : x = "f" := e
        subst e'
        refine ⟨?_, by show 1 ≤ 1; decide⟩
        rw [hdD, PyData.canLay0, PyData.canLayAll0, PyData.canLayAll0, PyData.canLayAll0, PyData.canLay0, PyData.canLay0]
        show (PyData.strOk "f" && (true && true)) = true
        decide +kernel
    rw [List.map_cons, PyData.canLayAll0, PyData.depthAll, hp.1, c]
    exact ⟨rfl, by (first | lia | omega)⟩
theorem hd_shaped {hs : List (Str × Int)} (h : ∀ p ∈ hs, (p.1 = "a" ∨ p.1 = "f") ∧ 0 ≤ p.2 ∧ p.2 ≤ 2) : SeqAt.shaped (.list (hs.map hdD)) = true := by
  obtain ⟨a, b⟩ := hd_can h
  unfold SeqAt.shaped
  rw [PyData.canLay0, PyData.depth, a, Bool.true_and]
  exact decide_eq_true (by (first | lia | omega))
theorem hd_ne {hs : List (Str × Int)} : (if true = true then !PyData.eqv (.list (hs.map hdD)) (.list []) else PyData.eqv (.list (hs.map hdD)) (.list [])) = decide (hs ≠ []) := by
  cases hs with
  | nil => rw [List.map_nil, PyData.eqv, PyData.eqvAll]; rfl
  | cons p r => rw [List.map_cons, PyData.eqv, PyData.eqvAll]; rfl
theorem rps_at {K : PySem.W.Frag} {H : Hp} : ∀ {vs : List V} {ds : List PyData} {v : V}, Rps K H vs ds → v ∈ vs → ∃ d ∈ ds, Rp K H v d
  | _, _, _, .nil, h => by cases h
  | _, _, _, .cons a b, h => by
    rcases List.mem_cons.mp h with rfl | h
    · exact ⟨_, List.mem_cons_self, a⟩
    · obtain ⟨d, hd, r⟩ := rps_at b h
      exact ⟨d, List.mem_cons_of_mem _ hd, r⟩
section
variable {P : Program} {w : World} {K : PySem.W.Frag} {mg : Str → Option Value} {base : Heap} {f : Addr} {fd' : FuncData}
theorem scStatement : FnScope ["deck", "deep", "subs", "kind", "name", "many", "axis"] ["deck", "deep", "subs"] (defScope sStatement) := ⟨rfl, rfl, rfl, by decide +kernel, rfl, by decide +kernel, by decide +kernel⟩
theorem stN_pos : ∀ d, 12 ≤ stN d
  | 0 => Nat.le_refl _
  | d + 1 => by rw [stN]; (first | lia | omega)
theorem ok_st {d : Nat} (TT : LawT mg) (FN : Fn P w K mg base "_law_next" 1 ["deck"] spDraw) (FE : Fn P w K mg base "_law_expression" 3 ["deck", "deep"] (spEx K 1)) (FE2 : Fn P w K mg base "_law_expression" 4 ["deck", "deep"] (spEx K 2))
    (FO : Fn P w K mg base "_law_opened" (3 * d + 4) ["deck", "kind", "deep", "subs"] (fun vs H Q E => ∃ m, m + 1 = d ∧ spOp K m vs H Q E)) (F : Fun K "_law_statement" "_law_statement" sStatement f fd') :
    FnOk P w K mg base (CX1 P w) (3 * d + 5) f fd' ["deck", "deep", "subs"] (spSt K d) := by
  have nd := scStatement.nd
  refine F.ok1 scStatement (fun vs H Q E h => ?_) (fun cdv A outer s H vs Q E hr h => ?_)
  · obtain ⟨D, L, a, n, hs, rfl, _⟩ := h
    rfl
  obtain ⟨D, L, a, n, hs, rfl, dk, hh, q⟩ := h
  have hr1 : Room 1 _ := hr.mono (show 1 ≤ 3 * d + 4 by (first | lia | omega))
  have hr3 : Room 3 _ := hr.mono (show 3 ≤ 3 * d + 4 by (first | lia | omega))
  have hr4 : Room 4 _ := hr.mono (show 4 ≤ 3 * d + 4 by (first | lia | omega))
  have hN := stN_pos d
  refine ⟨_, (pss_cons (ps_set (i := 3) nd rfl (Or.inl rfl) (pe_op op_mod (pf_call FN hr1 rfl (pass1 (E := E)) (pa_cons (pv 0) pa_nil)) pe_int))
    (pss_cons (ps_asg (pe_op op_sub (pe_ix (ix_listK (K := K) rfl) (pv 0) pe_int (fun _ _ => rfl)) pe_int) (pg_sub (pv 0) pe_int set_list))
    (pss_mid (ps_if (pt_cmpR op_lt (pe_ix (ix_listK (K := K) rfl) (pv 0) pe_int (fun _ _ => rfl)) pe_int (nomark _)) (pss_one (ps_set (i := 3) nd rfl (Or.inl rfl) (pe_op op_mod (pv 3) pe_int))) pss_nil)
    (pss_mid (ps_if (PW.pt (pw_and (pt_cmpR op_gt (pv 3) pe_int (nomark _)) (pw_and (pt_cmpR op_lt (pv 3) pe_int (nomark _)) (pw_and1 (pt_cmpR op_gt (pv 1) pe_int (nomark _)))))) (pss_one (ps_ret (pf_call FO hr rfl (pass1 (E := E)) (pa_cons (pv 0) (pa_cons (pv 3) (pa_cons (pv 1) (pa_cons (pv 2) pa_nil))))))) pss_nil)
    (pss_mid (ps_if (PW.pt (pw_and (pt_cmpR op_gt (pv 3) pe_int (nomark _)) (pw_and1 (pt_cmpR (op_neD hr.units) (pv 2) (pe_lst pa_nil) (nomark _))))) (pss_cons (ps_asg (pe_ix (ix_listK (K := K) rfl) (pv 2) (pe_op op_mod (pf_call FN hr1 rfl (pass1 (E := E)) (pa_cons (pv 0) pa_nil)) (pe_callB call_len_seq rfl TT.len PySem.boot_len (pa_cons (pv 2) pa_nil))) (fun _ _ => rfl)) (pg_tup (n := 2) rfl (pgs_cons (pg_name (i := 4) nd rfl (Or.inl rfl)) (pgs_cons (pg_name (i := 5) nd rfl (Or.inl rfl)) pgs_nil))))
    (pss_one (ps_ret (pe_tup (pa_cons pe_str (pa_cons (pv 4) (pa_cons (pe_lc (own := ["k"]) (capn := ["deck"]) (capI := [0]) rfl (blkC (defScope sStatement) rfl rfl (by decide +kernel) rfl (fun y hy => by rcases List.mem_cons.mp hy with rfl | hy; exact ⟨rfl, rfl⟩; cases hy)) (pi_range1 rfl TT.range (pa_cons (pv 5) pa_nil)) (fun _ _ _ _ _ _ => pg_name (i := 0) ndkd rfl (Or.inl rfl)) (fun _ _ _ _ _ _ => pifs_nil) (fun _ _ _ _ _ _ => (pf_call FE hr3 rfl passN (pa_cons (pv 1) (pa_cons pe_int pa_nil))))) pa_nil))))))) pss_nil)
    (pss_cons (ps_if (pt_cmpR op_lt (pv 3) pe_int (nomark _)) (pss_one (ps_ret (pe_tup (pa_cons pe_str (pa_cons (pe_ix (ix_listK (K := K) rfl) (pe_lst (pa_cons pe_str (pa_cons pe_str (pa_cons pe_str (pa_cons pe_str pa_nil))))) (pe_op op_mod (pf_call FN hr1 rfl (pass1 (E := E)) (pa_cons (pv 0) pa_nil)) pe_int) (fun _ _ => rfl)) (pa_cons (pf_call FE2 hr4 rfl (pass1 (E := E)) (pa_cons (pv 0) (pa_cons pe_int pa_nil))) pa_nil)))))) pss_nil)
    (pss_cons (ps_if (pt_cmpR op_eq (pv 3) pe_int (nomark _)) (pss_one (ps_ret (pe_tup (pa_cons pe_str (pa_cons (pf_call FE2 hr4 rfl (pass1 (E := E)) (pa_cons (pv 0) (pa_cons pe_int pa_nil))) pa_nil))))) pss_nil)
    (pss_cons (ps_set (i := 6) nd rfl (Or.inl rfl) (pe_ix (ix_listK (K := K) rfl) (pe_lst (pa_cons pe_str (pa_cons pe_str (pa_cons pe_str pa_nil)))) (pe_op op_mod (pf_call FN hr1 rfl (pass1 (E := E)) (pa_cons (pv 0) pa_nil)) pe_int) (fun _ _ => rfl)))
    (pss_one (ps_ret (pe_tup (pa_cons pe_str (pa_cons (pe_ix (ix_listK (K := K) rfl) (pe_lst (pa_cons pe_str (pa_cons pe_str pa_nil))) (pe_op op_mod (pv 3) pe_int) (fun _ _ => rfl)) (pa_cons (pv 6) (pa_cons (pf_call FE2 hr4 rfl (pass1 (E := E)) (pa_cons (pv 0) (pa_cons pe_int pa_nil))) (pa_cons (pe_cmpR op_eq (pe_op op_mod (pf_call FN hr1 rfl (pass1 (E := E)) (pa_cons (pv 0) pa_nil)) pe_int) pe_int (nomark _)) pa_nil)))))))))))))))), ?_⟩
  -- kind, the budget
  refine ⟨_, rfl, D, L, n + (stN d - 1), rfl, dk.le (by (first | lia | omega)), fun z H1 _ _ g1 d1 => ⟨_, _, rfl, rfl, (by show (0 : Int) < 13; decide), ?_⟩⟩
  obtain ⟨ns, at_, bb, mx, hD1, hL1, nl1, a0, a1⟩ := id d1
  refine ⟨_, rfl, D, _, 2, .int bb, rfl, rfl, SqL.of hD1, rfl, _, _, rfl, rfl, _, rfl, D, _, 2, 2, rfl, rfl, hD1, rfl, ?_⟩
  change tMid _ _ _ _ (upd H1 D (.lst (deckV L at_ (bb - 1) mx)))
  have hD2 : upd H1 D (.lst (deckV L at_ (bb - 1) mx)) D = some (.lst (deckV L at_ (bb - 1) mx)) := upd_same
  have d2 : Dk D L (n + (stN d - 1)) (upd H1 D (.lst (deckV L at_ (bb - 1) mx))) := ⟨ns, at_, bb - 1, mx, upd_same, by rw [upd_ne (Dk.neL hD1 hL1)]; exact hL1, nl1, a0, a1⟩
  have g2 : Gw D H (upd H1 D (.lst (deckV L at_ (bb - 1) mx))) := g1.trans ⟨by rw [drop_upd_same]; exact Same.refl _, ⟨_, hD1⟩, ⟨_, hD2⟩⟩
  clear hD1 hL1 d1 g1
  generalize upd H1 D (.lst (deckV L at_ (bb - 1) mx)) = H2 at hD2 d2 g2
  refine ⟨fun σ H3 => ∃ kd : Int, σ = [some (.ref D), some (.int d), some (.ref a), some (.int kd), none, none, none] ∧ H3 = H2 ∧ 0 ≤ kd, ?_, ?_⟩
  · have m1 := mod_lt z (show (0 : Int) < 13 by decide)
    refine ⟨_, rfl, D, _, 2, .int (bb - 1), rfl, rfl, SqL.of hD2, rfl, _, _, rfl, rfl, _, rfl, ite2 (fun _ => ?_) (fun _ => ?_)⟩
    · exact ⟨_, rfl, _, _, rfl, rfl, (by show (0 : Int) < 6; decide), _, rfl, rfl, (mod_lt _ (by decide)).1⟩
    · exact ⟨_, rfl, rfl, m1.1⟩
  rintro σ H3 ⟨kd, rfl, e3, kd0⟩
  have e3 := e3.symm
  subst e3
  clear hD2
  have hh2 := hh.gw g2
  -- opened
  refine ⟨fun σ H3 => σ = [some (.ref D), some (.int d), some (.ref a), some (.int kd), none, none, none] ∧ H3 = H2, ?_, ?_⟩
  · refine ⟨_, rfl, _, _, rfl, rfl, _, rfl, ite2 (fun _ => ?_) (fun _ => iteF ⟨rfl, rfl⟩)⟩
    refine ⟨_, rfl, _, _, rfl, rfl, _, rfl, ite2 (fun _ => ?_) (fun _ => iteF ⟨rfl, rfl⟩)⟩
    refine ⟨_, rfl, _, _, rfl, rfl, _, rfl, ite2 (fun c => ?_) (fun _ => ⟨rfl, rfl⟩)⟩
    have c' : (0 : Int) < d := of_decide_eq_true c
    obtain ⟨m, rfl⟩ : ∃ m, d = m + 1 := ⟨d - 1, by (first | lia | omega)⟩
    rw [stN] at d2
    refine ⟨_, rfl, _, rfl, _, rfl, _, rfl, m, rfl, D, L, a, n, hs, kd, rfl, d2.le (by (first | lia | omega)), hh2, fun v s H' g' d' r' k' c' => q v s H' (g2.trans g') d' (r'.same g2.young) k' c'⟩
  rintro σ H3 ⟨rfl, e3⟩
  have e3 := e3.symm
  subst e3
  have d2' : Dk D L (n + 11) H2 := d2.le (by (first | lia | omega))
  clear d2
  -- a call
  refine ⟨fun σ H3 => σ = [some (.ref D), some (.int d), some (.ref a), some (.int kd), none, none, none] ∧ Gw D H H3 ∧ Dk D L (n + 11) H3, ?_, ?_⟩
  · refine ⟨_, rfl, _, _, rfl, rfl, _, rfl, ite2 (fun _ => ?_) (fun _ => iteF ⟨rfl, g2, d2'⟩)⟩
    refine ⟨_, rfl, le0, fun l0 h0 => ?_⟩
    have u0 := same_upd h0 (.lst [])
    have g23 := d2'.gw u0
    have d3 := d2'.same u0
    have hh3 := hh2.gw g23
    have g3 := g2.trans g23
    have e0 : upd H2 l0 (.lst []) l0 = some (.lst []) := upd_same
    refine ⟨_, _, hh3.r.same drop_le, .lst (SqL.of e0) .nil, hd_shaped hh.ok, by decide +kernel, _, rfl, ?_⟩
    rw [hd_ne]
    refine ite2 (fun c => ?_) (fun _ => ⟨rfl, g3, d3⟩)
    have c' : hs ≠ [] := of_decide_eq_true c
    clear e0 g23
    generalize upd H2 l0 (.lst []) = H3 at d3 hh3 g3
    have hl := List.length_pos_iff.mpr c'
    refine ⟨_, rfl, _, rfl, D, L, n + 10, rfl, d3, fun z4 H4 _ _ g34 d4 => ?_⟩
    have hh4 := hh3.gw g34
    have g4 := g3.trans g34
    obtain ⟨a', xs, ea, hq, hr4'⟩ := Rp.lstO (hh4.r.same drop_le)
    cases ea
    have lx : xs.length = hs.length := by rw [hr4'.length, List.length_map]
    have mz := mod_lt z4 (show (0 : Int) < xs.length by (first | lia | omega))
    obtain ⟨v, hat, hv⟩ := at_mem mz.1 mz.2
    obtain ⟨dd, hdd, rv⟩ := rps_at hr4' hv
    obtain ⟨p, hp, rfl⟩ := List.mem_map.mp hdd
    obtain ⟨t, ts, rfl, ht, hts⟩ := Rp.tupO rv
    obtain ⟨y1, ts, rfl, hy1, hts⟩ := hts.consO
    obtain ⟨y2, ts, rfl, hy2, hts⟩ := hts.consO
    cases hts.nilO
    cases hy1.strO
    cases hy2.intO
    obtain ⟨pn, p0, p2⟩ := hh.ok p hp
    refine ⟨_, rfl, a, xs, rfl, .inl hq, _, _, rfl, rfl, (by show (0 : Int) < xs.length; (first | lia | omega)), a, xs, _, _, rfl, rfl, hq, hat, t, _, rfl, ht, rfl, _, _, rfl, _, _, rfl, rfl, ?_⟩
    refine ⟨_, rfl, _, rfl, p.2, rfl, (by (first | lia | omega)), (by (first | lia | omega)), fun R hR => ?_⟩
    have uR := same_upd hR (.lst [])
    refine ⟨Wd p.2.toNat (fun i σ acc H5 => ∃ (z : Option V) (es : List Ex), σ = [z, some (.ref D)] ∧ es.length = i ∧ acc.length = i ∧ Rps K (nw H4 H5 R) acc (es.map Ex.dat) ∧ (∀ e ∈ es, (e.ok ∧ e.deep ≤ 2) ∧ e.sok) ∧ Gw D H4 H5 ∧ Dk D L (n + 3 * (2 - i)) H5 ∧ H5 R = some (.lst acc)), wd_0 ⟨none, [], rfl, rfl, rfl, .nil, (fun e he => by cases he), d4.gw uR, (d4.same uR).le (by (first | lia | omega)), upd_same⟩, ?_⟩
    rintro i m σ acc H5 ⟨rfl, hi0, z5, es, rfl, el, al, ra, okE, g45, d5, hR5⟩
    refine rg_ask hi0 (fun hi => ?_) (fun hend => ?_)
    · refine ⟨_, rfl, D, L, n + 3 * (2 - (i + 1)), rfl, d5.le (by show _ + 3 ≤ _; (first | lia | omega)), fun v e H6 g6 d6 r6 k6 p6 o6 => ?_⟩
      have hR6 := g6.at (g45.ne hR) hR5
      refine ⟨hR6, ?_, wd_next hi ⟨_, es ++ [e], rfl, by rw [List.length_append, el]; rfl, by rw [List.length_append, al]; rfl, ?_, ?_, (g45.trans g6).inR hR, d6.inR d4 hR, upd_same⟩⟩
      · rw [al]
        exact line3 (show i ≤ 10 by (first | lia | omega)) (by decide)
      · rw [nw_upd, List.map_append]
        exact rps_snoc (ra.same (g45.oldR g6)) (r6.same (g45.youngR hR5))
      · intro x hx
        rcases List.mem_append.mp hx with hx | hx
        · exact okE x hx
        · rw [List.mem_singleton.mp hx]
          exact ⟨⟨k6, by (first | lia | omega)⟩, o6⟩
    · refine ⟨le3, fun t7 h7 => ?_⟩
      have u7 := same_upd h7 (.tup [V.str "call", .str p.1, .ref R])
      have g57 := d5.gw u7
      have g5 := g4.trans g45
      have g47 := g45.trans g57
      refine q _ (.call p.1 es) _ (g5.trans g57) ((d5.same u7).le (by (first | lia | omega))) ?_ ?_ ?_
      · rw [Stm.dat]
        exact .tup (SqT.of (new_at (g5.free h7) upd_same)) (.cons (.str _) (.cons (.str _) (.cons (.lst (SqL.of (new_at (g4.free hR) (u7 _ _ hR5))) (ra.same (nw_le.trans (g4.young.trans (g5.old g57))))) .nil)))
      · rw [Stm.ok]
        exact ⟨by rw [el]; (first | lia | omega), fun x hx => (okE x hx).1⟩
      · rw [Stm.cin]
        exact ⟨List.mem_map_of_mem hp, fun x hx => (okE x hx).2⟩
  clear hh2 g2 d2'
  rintro σ H3 ⟨rfl, g3, d3⟩
  refine ⟨_, rfl, _, _, rfl, rfl, _, rfl, ite2 (fun _ => ?_) (fun _ => ?_)⟩
  · -- let
    refine ⟨le4, fun l hl => ?_⟩
    have u1 := same_upd hl (.lst [V.str "a", .str "b", .str "c", .str "k"])
    have g34 := d3.gw u1
    have nl := g34.ne hl
    refine ⟨_, rfl, D, L, n + 10, rfl, d3.same u1, fun z4 H5 _ _ g5 d5 => ?_⟩
    have mz := mod_lt z4 (show (0 : Int) < 4 by decide)
    obtain ⟨x, hx, hat⟩ := pickS (xs := ["a", "b", "c", "k"]) mz.1 mz.2
    refine ⟨_, _, rfl, rfl, (by show (0 : Int) < 4; decide), l, _, _, .str x, rfl, rfl, SqL.of (g5.at nl upd_same), hat, _, rfl, D, L, n, rfl, d5.le (by show n + 7 ≤ _; (first | lia | omega)), fun v e H6 g6 d6 r6 k6 p6 o6 => ⟨le3, fun t ht => ?_⟩⟩
    have u7 := same_upd ht (.tup [V.str "let", .str x, v])
    have g7 := d6.gw u7
    have g05 := g3.trans (g34.trans g5)
    have g06 := g05.trans g6
    refine q _ (.lt x e) _ (g06.trans g7) (d6.same u7) ?_ ?_ ?_
    · rw [Stm.dat]
      exact .tup (SqT.of (new_at (g06.free ht) upd_same)) (.cons (.str _) (.cons (.str _) (.cons (r6.same (g05.young.trans (g06.old g7))) .nil)))
    · rw [Stm.ok]
      exact ⟨k6, p6⟩
    · rw [Stm.cin]
      exact o6
  refine ⟨_, rfl, rfl, _, rfl, ite2 (fun _ => ?_) (fun _ => ?_)⟩
  · -- hold
    refine ⟨_, rfl, D, L, n, rfl, d3.le (by show n + 7 ≤ _; (first | lia | omega)), fun v e H6 g6 d6 r6 k6 p6 o6 => ⟨le2, fun t ht => ?_⟩⟩
    have u7 := same_upd ht (.tup [V.str "hold", v])
    have g7 := d6.gw u7
    have g06 := g3.trans g6
    refine q _ (.hold e) _ (g06.trans g7) (d6.same u7) ?_ ?_ ?_
    · rw [Stm.dat]
      exact .tup (SqT.of (new_at (g06.free ht) upd_same)) (.cons (.str _) (.cons (r6.same (g3.young.trans (g06.old g7))) .nil))
    · rw [Stm.ok]
      exact ⟨k6, p6⟩
    · rw [Stm.cin]
      exact o6
  -- move
  refine ⟨le3, fun l hl => ?_⟩
  have u1 := same_upd hl (.lst [V.str "x", .str "y", .str "z"])
  have g34 := d3.gw u1
  have nl := g34.ne hl
  refine ⟨_, rfl, D, L, n + 10, rfl, d3.same u1, fun z4 H5 _ _ g5 d5 => ?_⟩
  have mz := mod_lt z4 (show (0 : Int) < 3 by decide)
  obtain ⟨ax, hx, hat⟩ := pickS (xs := ["x", "y", "z"]) mz.1 mz.2
  refine ⟨_, _, rfl, rfl, (by show (0 : Int) < 3; decide), l, _, _, .str ax, rfl, rfl, SqL.of (g5.at nl upd_same), hat, ?_⟩
  have mk := mod_lt kd (show (0 : Int) < 2 by decide)
  obtain ⟨kn, hkn, hak⟩ := pickS (xs := ["fast", "slow"]) mk.1 mk.2
  refine ⟨le2, fun l2 hl2 => ⟨_, rfl, _, _, rfl, rfl, (by show (0 : Int) < 2; decide), l2, _, _, .str kn, rfl, rfl, SqL.of upd_same, hak, _, rfl, ?_⟩⟩
  have u2 := same_upd hl2 (.lst [V.str "fast", .str "slow"])
  have g56 := d5.gw u2
  refine ⟨_, rfl, D, L, n + 1, rfl, (d5.same u2).le (by show n + 1 + 7 ≤ _; (first | lia | omega)), fun v e H7 g7 d7 r7 k7 p7 o7 => ⟨_, rfl, D, L, n, rfl, d7, fun z8 H8 _ _ g8 d8 => ⟨_, _, rfl, rfl, (by show (0 : Int) < 2; decide), rfl, le5, fun t ht => ?_⟩⟩⟩
  have u9 := same_upd ht (.tup [V.str "move", .str kn, .str ax, v, .bl (decide (V.int (z8 % 2) = V.int 1))])
  have g9 := d8.gw u9
  have g06 := g3.trans (g34.trans (g5.trans g56))
  have g07 := g06.trans g7
  have g08 := g07.trans g8
  refine q _ (.move kn ax e (decide (V.int (z8 % 2) = V.int 1))) _ (g08.trans g9) (d8.same u9) ?_ ?_ ?_
  · rw [Stm.dat]
    exact .tup (SqT.of (new_at (g08.free ht) upd_same)) (.cons (.str _) (.cons (.str _) (.cons (.str _) (.cons (r7.same (g06.young.trans (g07.old (g8.trans g9)))) (.cons (.bl _) .nil)))))
  · rw [Stm.ok]
    exact ⟨by simpa using hx, k7, p7⟩
  · rw [Stm.cin]
    have hk : kn = "fast" ∨ kn = "slow" := by simpa using hkn
    have ha : ax = "x" ∨ ax = "y" ∨ ax = "z" := by simpa using hx
    refine ⟨?_, ?_, o7⟩
    · rcases hk with rfl | rfl <;> decide +kernel
    · rcases ha with rfl | rfl | rfl <;> decide +kernel
end
end Car

set_option maxHeartbeats 1000000
namespace Car
open PySem L2
theorem cins_snoc {N : List Str} {b : List Stm} {s : Stm} (h : cins N b) (h' : s.cin N) : cins N (b ++ [s]) := cins_append h (by rw [cins, cins]; exact ⟨h', trivial⟩)
theorem oks_snoc {k : Nat} {b : List Stm} {s : Stm} (h : oks k b) (h' : s.ok k) : oks k (b ++ [s]) := oks_append h (by rw [oks, oks]; exact ⟨h', trivial⟩)
section
variable {P : Program} {w : World} {K : PySem.W.Frag} {mg : Str → Option Value} {base : Heap} {f : Addr} {fd' : FuncData}
noncomputable def tEither : TT := fun σ H Q => (∃ (D L : Addr) (n : Nat) (k : Int), σ[0]? = some (some (.ref D)) ∧ σ[5]? = some (some (.int k)) ∧ Dk D L n H) ∧ ∀ c : Bool, Q c H
theorem scBody : FnScope ["deck", "many", "deep", "subs", "found", "k"] ["deck", "many", "deep", "subs"] (defScope sBody) := ⟨rfl, rfl, rfl, by decide +kernel, rfl, by decide +kernel, by decide +kernel⟩
theorem ok_bo {d : Nat} (TT : LawT mg) (FS : Fn P w K mg base "_law_statement" (3 * d + 5) ["deck", "deep", "subs"] (spSt K d)) (F : Fun K "_law_body" "_law_body" sBody f fd') :
    FnOk P w K mg base (CX1 P w) (3 * d + 6) f fd' ["deck", "many", "deep", "subs"] (spBo K d) := by
  have nd := scBody.nd
  refine F.ok1 scBody (fun vs H Q E h => ?_) (fun cdv A outer s H vs Q E hr h => ?_)
  · obtain ⟨D, L, a, n, hs, many, rfl, _⟩ := h
    rfl
  obtain ⟨D, L, a, n, hs, many, rfl, m0, m4, dk, hh, q⟩ := h
  refine ⟨_, (pss_cons (ps_set (i := 4) nd rfl (Or.inl rfl) (pe_lst pa_nil))
    (pss_cons (ps_for own1 rfl (pi_range1 rfl TT.range (pa_cons (pv 1) pa_nil)) (pg_name (i := 5) nd rfl (Or.inl rfl)) (pss_one (ps_if (pt_imp (t' := tEither) (PW.pt (pw_or (pt_cmpR op_eq (pv 5) pe_int (nomark _)) (pw_or1 (pt_cmpR op_gt (pe_ix (ix_listK (K := K) rfl) (pv 0) pe_int (fun _ _ => rfl)) pe_int (nomark _))))) (fun σ H Q ⟨⟨D, L, n, k, e0, e5, ns, at_, b, mx, hD, _⟩, q⟩ => ⟨_, e5, rfl, _, rfl, ite2 (fun _ => q true) (fun _ => ⟨_, e0, D, _, 2, .int b, rfl, rfl, SqL.of hD, rfl, _, _, rfl, rfl, _, rfl, q _⟩)⟩)) (pss_one (ps_expr (pe_bm PySem.F.plainAttrs_list PySem.F.slot_list_append PySem.F.type_list_append mt_append (pv 4) (pa_cons (pf_call FS hr rfl (pass1 (E := E)) (pa_cons (pv 0) (pa_cons (pv 2) (pa_cons (pv 3) pa_nil)))) pa_nil)))) pss_nil)))
    (pss_one (ps_ret (pv 4))))), ?_⟩
  refine ⟨le0, fun R hR => ⟨_, rfl, many, rfl, (by (first | lia | omega)), (by (first | lia | omega)), ?_⟩⟩
  have uR := same_upd hR (.lst [])
  refine for_range (fun i σ Hc => ∃ (x5 : Option V) (b : List Stm) (acc : List V), σ = [some (.ref D), some (.int many), some (.int d), some (.ref a), some (.ref R), x5] ∧ acc.length = b.length ∧ b.length ≤ i ∧ Rps K (nw H Hc R) acc (b.map Stm.dat) ∧ oks 2 b ∧ cins (nms hs) b ∧ Gw D H Hc ∧ Dk D L (n + (4 - i) * stN d) Hc ∧ Hc R = some (.lst acc)) ⟨none, [], [], rfl, rfl, Nat.le_refl _, .nil, by rw [oks]; trivial, by rw [cins]; trivial, dk.gw uR, dk.same uR, upd_same⟩ ?_ ?_
  · rintro i σ Hc hi ⟨x5, b, acc, rfl, al, bl, ra, ob, cb, g, dc, hRc⟩
    have e4 : 4 - i = 4 - (i + 1) + 1 := by (first | lia | omega)
    rw [e4, Nat.add_mul, Nat.one_mul, ← Nat.add_assoc] at dc
    refine ⟨⟨D, L, _, 0 + i, rfl, rfl, dc⟩, fun c => ite2 (fun _ => ?_) (fun _ => ?_)⟩
    · refine ⟨_, rfl, .inl ⟨rfl, _, SqL.of hRc⟩, _, rfl, _, rfl, _, rfl, D, L, a, n + (4 - (i + 1)) * stN d, hs, rfl, dc, hh.gw g, fun v s H3 g3 d3 r3 k3 c3 => ?_⟩
      have hR3 := g3.at (g.ne hR) hRc
      refine ⟨R, _, _, rfl, rfl, hR3, ?_, _, b ++ [s], acc ++ [v], rfl, by rw [List.length_append, List.length_append, al]; rfl, by rw [List.length_append]; exact Nat.succ_le_succ bl, ?_, oks_snoc ob k3, cins_snoc cb c3, (g.trans g3).inR hR, d3.inR dk hR, upd_same⟩
      · rw [al]
        exact line3 (show b.length ≤ 10 by (first | lia | omega)) (by decide)
      · rw [nw_upd, List.map_append]
        exact rps_snoc (ra.same (g.oldR g3)) (r3.same (g.youngR hRc))
    · exact ⟨_, b, acc, rfl, al, by (first | lia | omega), ra, ob, cb, g, dc.le (by (first | lia | omega)), hRc⟩
  · rintro σ Hc ⟨x5, b, acc, rfl, al, bl, ra, ob, cb, g, dc, hRc⟩
    exact ⟨_, rfl, q R acc b Hc g (dc.le (by (first | lia | omega))) hR hRc (ra.same nw_le) (by (first | lia | omega)) ob cb⟩
theorem fn_never {x : Str} {k : Nat} {ps : List Str} (hm : mg x = some (.ref f)) (kp : PySem.W.keepIn K (.ref f) = true) (bi : Binds K fd' ps []) {sp : Sp} (h : ∀ vs H Q E, ¬ sp vs H Q E) : Fn P w K mg base x k ps sp :=
  ⟨f, fd', ⟨fun vs H Q E z => (h vs H Q E z).elim, fun _ _ vs H Q E _ _ _ _ _ _ _ z => ((h _ _ _ _) z).elim⟩, hm, kp, bi⟩
end
section
variable {P : Program} {w : World} {K : PySem.W.Frag} {mg : Str → Option Value} {base : Heap} {fO fS fB : Addr} {dO dS dB : FuncData}
theorem ok_three (TT : LawT mg) (FN : Fn P w K mg base "_law_next" 1 ["deck"] spDraw) (FE : Fn P w K mg base "_law_expression" 3 ["deck", "deep"] (spEx K 1)) (FE2 : Fn P w K mg base "_law_expression" 4 ["deck", "deep"] (spEx K 2))
    (hO : mg "_law_opened" = some (.ref fO)) (kO : PySem.W.keepIn K (.ref fO) = true) (bO : Binds K dO ["deck", "kind", "deep", "subs"] []) (TO : Fun K "_law_opened" "_law_opened" sOpened fO dO)
    (hS : mg "_law_statement" = some (.ref fS)) (kS : PySem.W.keepIn K (.ref fS) = true) (bS : Binds K dS ["deck", "deep", "subs"] []) (TS : Fun K "_law_statement" "_law_statement" sStatement fS dS)
    (hB : mg "_law_body" = some (.ref fB)) (kB : PySem.W.keepIn K (.ref fB) = true) (bB : Binds K dB ["deck", "many", "deep", "subs"] []) (TB : Fun K "_law_body" "_law_body" sBody fB dB) :
    ∀ d, Fn P w K mg base "_law_body" (3 * d + 6) ["deck", "many", "deep", "subs"] (spBo K d)
  | 0 => ⟨fB, dB, ok_bo TT ⟨fS, dS, ok_st (d := 0) TT FN FE FE2 (fn_never hO kO bO fun vs H Q E ⟨m, e, _⟩ => absurd e (by (first | lia | omega))) TS, hS, kS, bS⟩ TB, hB, kB, bB⟩
  | d + 1 => by
    have FB := ok_three TT FN FE FE2 hO kO bO TO hS kS bS TS hB kB bB TB d
    have FO : Fn P w K mg base "_law_opened" (3 * (d + 1) + 4) ["deck", "kind", "deep", "subs"] (fun vs H Q E => ∃ m, m + 1 = d + 1 ∧ spOp K m vs H Q E) := ⟨fO, dO, (ok_op TT FN FE FB TO).imp fun vs H Q E ⟨m, e, h⟩ => (by have z : m = d := (by (first | lia | omega)); subst z; exact h), hO, kO, bO⟩
    exact ⟨fB, dB, ok_bo TT ⟨fS, dS, ok_st TT FN FE FE2 FO TS, hS, kS, bS⟩ TB, hB, kB, bB⟩
end
end Car

set_option maxHeartbeats 1000000
namespace Car
open PySem L2
noncomputable abbrev sParts : Stmt := top 24
noncomputable abbrev nAB : List Str := ["a", "b"]
noncomputable abbrev nBCK : List Str := ["b", "c", "k"]
noncomputable abbrev nABCK : List Str := ["a", "b", "c", "k"]
theorem cutV_map {α : Type} (g : α → V) (xs : List α) (lo hi : Option Int) : ∃ ys : List α, cutV (xs.map g) lo hi = ys.map g ∧ ys.length ≤ xs.length := by
  refine ⟨(xs.drop (HT.sIx (xs.map g).length 0 lo)).take (HT.sIx (xs.map g).length (xs.map g).length hi - HT.sIx (xs.map g).length 0 lo), ?_, ?_⟩
  · unfold cutV
    rw [List.map_take, List.map_drop]
  · rw [List.length_take, List.length_drop]
    (first | lia | omega)
theorem int_of {ns : List Int} {i : Nat} {x : V} (hx : (ns.map V.int)[i]? = some x) : ∃ n, x = .int n := by
  rw [List.getElem?_map] at hx
  cases e : ns[i]? with
  | none => rw [e] at hx; cases hx
  | some z =>
    rw [e] at hx
    exact ⟨z, (Option.some.inj hx).symm⟩
theorem rps_ix {K : PySem.W.Frag} {H : Hp} : ∀ {vs : List V} {ds : List PyData} {i : Nat} {x : V}, Rps K H vs ds → vs[i]? = some x → ∃ d, ds[i]? = some d ∧ Rp K H x d
  | _, _, i, x, .nil, h => by simp at h
  | _, _, 0, x, .cons a b, h => by
    cases Option.some.inj h
    exact ⟨_, rfl, a⟩
  | _, _, i + 1, x, .cons a b, h => by
    obtain ⟨d, h1, h2⟩ := rps_ix (i := i) (x := x) b (by simpa using h)
    exact ⟨d, by simpa using h1, h2⟩
theorem rps_append {K : PySem.W.Frag} {H : Hp} : ∀ {vs us : List V} {ds es : List PyData}, Rps K H vs ds → Rps K H us es → Rps K H (vs ++ us) (ds ++ es)
  | _, _, _, _, .nil, h => h
  | _, _, _, _, .cons a b, h => .cons a (rps_append b h)
theorem subOf_in {x : Str} : ∀ {subs : List Sub}, x ∈ subs.map Sub.name → ∃ sb ∈ subs, subOf x subs = some sb
  | [], h => by cases h
  | s :: r, h => by
    rw [subOf]
    cases e : subOf x r with
    | some t =>
      by_cases m : x ∈ r.map Sub.name
      · obtain ⟨sb, h1, h2⟩ := subOf_in m
        rw [e] at h2
        cases h2
        exact ⟨_, List.mem_cons_of_mem _ h1, rfl⟩
      · have : ∀ (l : List Sub), x ∉ l.map Sub.name → subOf x l = none := fun l => by
          induction l with
          | nil => intro _; rfl
          | cons a b ih =>
            intro hn
            rw [List.map_cons, List.mem_cons, not_or] at hn
            rw [subOf, ih hn.2]
            exact if_neg (Ne.symm hn.1)
        rw [this r m] at e
        cases e
    | none =>
      rcases List.mem_cons.mp h with z | z
      · refine ⟨s, List.mem_cons_self, ?_⟩
        show (if s.name = x then some s else none) = some s
        rw [if_pos z.symm]
      · obtain ⟨sb, h1, h2⟩ := subOf_in z
        rw [e] at h2
        cases h2
theorem subOf_out {x : Str} : ∀ {subs : List Sub}, x ∉ subs.map Sub.name → subOf x subs = none
  | [], _ => rfl
  | a :: b, hn => by
    rw [List.map_cons, List.mem_cons, not_or] at hn
    rw [subOf, subOf_out hn.2]
    exact if_neg (Ne.symm hn.1)
theorem letsB_ok {k : Nat} : ∀ ps : List (Str × Int), oks k (letsB ps)
  | [] => by rw [letsB, List.map_nil, oks]; trivial
  | p :: r => by
    have := letsB_ok (k := k) r
    rw [letsB] at this
    rw [letsB, List.map_cons, oks, Stm.ok]
    exact ⟨⟨True.intro, Nat.zero_le _⟩, this⟩
theorem letsB_cin {N : List Str} : ∀ ps : List (Str × Int), cins N (letsB ps)
  | [] => by rw [letsB, List.map_nil, cins]; trivial
  | p :: r => by
    have := letsB_cin (N := N) r
    rw [letsB] at this
    rw [letsB, List.map_cons, cins, Stm.cin]
    exact ⟨trivial, this⟩
structure Pts (subs : List Sub) (lets body : List Stm) (turns : Int) : Prop where
  sl : subs.length ≤ 2
  ll : lets.length ≤ 10
  bl : body.length ≤ 4
  so : ∀ s ∈ subs, oks 2 s.body
  lo : oks 2 lets
  bo : oks 2 body
  t0 : 0 ≤ turns
  t4 : turns < 4
  nm : ∃ N : List Str, (∀ x ∈ N, ∃ sb, subOf x subs = some sb ∧ cins N sb.body) ∧ cins N lets ∧ cins N body
  nom : subOf "m" subs = none
section
variable {P : Program} {w : World} {K : PySem.W.Frag} {mg : Str → Option Value} {base : Heap} {f : Addr} {fd' : FuncData}
noncomputable def spParts (K : PySem.W.Frag) : Sp := fun vs H Q _ => ∃ (a : Addr) (ns : List Int), vs = [.ref a] ∧ SqL K H a (ns.map V.int) ∧ ns.length ≤ 63 ∧
  ∀ (t sl ll bl : Addr) (turns : Int) (vs us ws : List V) (subs : List Sub) (lets body : List Stm) (H' : Hp), Same H H' → H' t = some (.tup [.ref sl, .ref ll, .ref bl, .int turns]) → H' sl = some (.lst vs) → Rps K H' vs (subs.map Sub.dat) → H' ll = some (.lst us) → Rps K H' us (lets.map Stm.dat) → H' bl = some (.lst ws) → Rps K H' ws (body.map Stm.dat) → Pts subs lets body turns → Q (.ref t) H'
theorem scParts : FnScope ["script", "deck", "heads", "subs", "name", "many", "body", "lets"] ["script"] (defScope sParts) := ⟨rfl, rfl, rfl, by decide +kernel, rfl, by decide +kernel, by decide +kernel⟩
theorem ok_parts (TT : LawT mg) (hsum : mg "sum" = none) (FN : Fn P w K mg base "_law_next" 1 ["deck"] spDraw) (FL : Fn P w K mg base "_law_lets" 2 ["deck", "names"] (spLets K)) (FB1 : Fn P w K mg base "_law_body" 9 ["deck", "many", "deep", "subs"] (spBo K 1)) (FB2 : Fn P w K mg base "_law_body" 12 ["deck", "many", "deep", "subs"] (spBo K 2)) (F : Fun K "_law_parts" "_law_parts" sParts f fd') :
    FnOk P w K mg base (CX1 P w) 13 f fd' ["script"] (spParts K) := by
  have nd := scParts.nd
  refine F.ok1 scParts (fun vs H Q E h => ?_) (fun cdv A outer s H vs Q E hr h => ?_)
  · obtain ⟨a, ns, rfl, _⟩ := h
    rfl
  obtain ⟨a, ns, rfl, hS, hn, q⟩ := h
  have hr1 : Room 1 _ := hr.mono (by decide)
  have hr2 : Room 2 _ := hr.mono (by decide)
  have hr9 : Room 9 _ := hr.mono (by decide)
  refine ⟨_, (pss_cons (ps_set (i := 1) nd rfl (Or.inr rfl) (pe_lst (pa_cons (pe_lc (own := ["cell"]) (capn := []) (capI := []) rfl (blk0 rfl (by decide +kernel)) (pi_list (pe_slice sl_list (pv 0) po_none (po_some pe_int))) (fun _ _ _ _ _ _ => pg_name (i := 0) (nd1 "cell") rfl (Or.inl rfl)) (fun _ _ _ _ _ _ => pifs_nil) (fun _ _ _ _ _ _ => (pe_op op_fdiv (pv 0) pe_int))) (pa_cons pe_int (pa_cons pe_int (pa_cons (pe_op op_mod (pe_callB (call_sumW rfl) rfl hsum bt_sum (pa_cons (pe_slice sl_list (pv 0) po_none (po_some pe_int)) pa_nil)) pe_int) pa_nil))))))
    (pss_cons (ps_setC (i := 2) (own := ["k"]) (capn := ["deck"]) (capI := [1]) nd rfl (Or.inl rfl) rfl rfl (blkC (defScope sParts) rfl rfl (by decide +kernel) rfl (fun y hy => by rcases List.mem_cons.mp hy with rfl | hy; exact ⟨rfl, rfl⟩; cases hy)) (pi_range1 rfl TT.range (pa_cons (pe_op op_mod (pf_call FN hr1 rfl (pass1 (E := E)) (pa_cons (pv 1) pa_nil)) pe_int) pa_nil)) (fun _ _ _ _ _ _ => pg_name (i := 0) ndkd rfl (Or.inl rfl)) (fun _ _ _ _ _ _ => pifs_nil) (fun _ _ _ _ _ _ => (pe_tup (pa_cons (pe_ix (ix_listK (K := K) rfl) (pe_lst (pa_cons pe_str (pa_cons pe_str pa_nil))) (pv 0) (fun _ _ => rfl)) (pa_cons (pe_op op_mod (pf_call FN hr1 rfl passN (pa_cons (pv 1) pa_nil)) pe_int) pa_nil)))))
    (pss_cons (ps_set (i := 3) nd rfl (Or.inl rfl) (pe_lst pa_nil))
    (pss_cons (ps_for own1 rfl (pi_list (pv 2)) (pg_tup (n := 2) rfl (pgs_cons (pg_name (i := 4) nd rfl (Or.inl rfl)) (pgs_cons (pg_name (i := 5) nd rfl (Or.inl rfl)) pgs_nil))) (pss_cons (ps_set (i := 6) nd rfl (Or.inl rfl) (pf_call FB1 hr9 rfl (pass1 (E := E)) (pa_cons (pv 1) (pa_cons (pe_op op_add pe_int (pe_op op_mod (pf_call FN hr1 rfl (pass1 (E := E)) (pa_cons (pv 1) pa_nil)) pe_int)) (pa_cons pe_int (pa_cons (pv 2) pa_nil))))))
    (pss_one (ps_expr (pe_bm PySem.F.plainAttrs_list PySem.F.slot_list_append PySem.F.type_list_append mt_append (pv 3) (pa_cons (pe_tup (pa_cons (pv 4) (pa_cons (pe_slice sl_list (pe_lst (pa_cons pe_str (pa_cons pe_str pa_nil))) po_none (po_some (pv 5))) (pa_cons (pe_op op_cat (pf_call FL hr2 rfl (pass1 (E := E)) (pa_cons (pv 1) (pa_cons (pe_slice sl_list (pe_lst (pa_cons pe_str (pa_cons pe_str (pa_cons pe_str pa_nil)))) (po_some (pv 5)) po_none) pa_nil))) (pv 6)) pa_nil)))) pa_nil))))))
    (pss_cons (ps_set (i := 7) nd rfl (Or.inl rfl) (pf_call FL hr2 rfl (pass1 (E := E)) (pa_cons (pv 1) (pa_cons (pe_lst (pa_cons pe_str (pa_cons pe_str (pa_cons pe_str (pa_cons pe_str pa_nil))))) pa_nil))))
    (pss_cons (ps_asg pe_int (pg_sub (pv 1) pe_int set_list))
    (pss_one (ps_ret (pe_tup (pa_cons (pv 3) (pa_cons (pv 7) (pa_cons (pf_call FB2 hr rfl (pass1 (E := E)) (pa_cons (pv 1) (pa_cons (pe_op op_add pe_int (pe_op op_mod (pf_call FN hr1 rfl (pass1 (E := E)) (pa_cons (pv 1) pa_nil)) pe_int)) (pa_cons pe_int (pa_cons (pv 2) pa_nil))))) (pa_cons (pe_op op_mod (pf_call FN hr1 rfl (pass1 (E := E)) (pa_cons (pv 1) pa_nil)) pe_int) pa_nil))))))))))))), ?_⟩
  -- the deck
  refine ⟨_, rfl, 63, rfl, a, _, rfl, hS, fun p1 hp1 => ⟨p1, rfl, ⟨_, SqL.of upd_same⟩, fun L hL => ?_⟩⟩
  have z1 := same_upd hp1 (.lst (cutV (ns.map V.int) none (some 63)))
  have hp := upd_same (H := H) (a := p1) (o := .lst (cutV (ns.map V.int) none (some 63)))
  obtain ⟨ms, hms, ml⟩ := cutV_map V.int ns none (some 63)
  rw [hms] at hp z1 hL ⊢
  generalize upd H p1 (.lst (ms.map V.int)) = H1 at hp z1 hL ⊢
  refine ⟨Wd (ms.map V.int).length (fun i σ acc H2 => ∃ (z : Option V) (cs : List Int), σ = [z] ∧ acc = cs.map V.int ∧ cs.length = i ∧ Same H1 H2 ∧ H2 L = some (.lst acc)), wd_0 ⟨none, [], rfl, rfl, rfl, same_upd hL _, upd_same⟩, ?_⟩
  rintro i m σ acc H2 ⟨rfl, hi0, z, cs, rfl, rfl, cl, s2, hL2⟩
  refine lc_ask (K := K) (xs := ms.map V.int) (SqL.of (s2 _ _ hp)) hi0 (fun x hx hi => ?_) (fun hend => ?_)
  · obtain ⟨c, rfl⟩ := int_of hx
    rw [List.length_map] at hi
    refine ⟨_, rfl, _, _, rfl, rfl, ⟨by decide, by decide⟩, hL2, ?_, wd_next (by rw [List.length_map]; exact hi) ⟨_, cs ++ [c / 2], rfl, by rw [List.map_append]; rfl, by rw [List.length_append, cl]; rfl, same_in s2 hL, upd_same⟩⟩
    rw [List.length_map, cl]
    exact line3 (show i ≤ 100 by (first | lia | omega)) (by decide)
  have cl' : cs.length ≤ 63 := by rw [List.length_map] at hend; (first | lia | omega)
  obtain ⟨ms2, hms2, _⟩ := cutV_map V.int ns none (some 1)
  refine ⟨_, rfl, 1, rfl, a, _, rfl, (z1.trans s2).seq hS, fun p2 hp2 => ⟨p2, ms2, rfl, ?_, fun zz => ⟨_, _, rfl, rfl, (by show (0 : Int) < 2; decide), le4, fun D hD => ?_⟩⟩⟩
  · rw [hms2]
    exact SqL.of upd_same
  have s3 : Same H2 (upd (upd H2 p2 (.lst (cutV (ns.map V.int) none (some 1)))) D (.lst [V.ref L, .int 0, .int 8, .int (zz % 2)])) := (same_upd hp2 _).trans (same_upd hD _)
  have dk : Dk D L 1000000 (upd (upd H2 p2 (.lst (cutV (ns.map V.int) none (some 1)))) D (.lst [V.ref L, .int 0, .int 8, .int (zz % 2)])) := ⟨cs, 0, 8, zz % 2, upd_same, s3 _ _ hL2, cl', by decide, by decide⟩
  have s03 := (z1.trans s2).trans s3
  have nD : H D = none := (z1.trans s2).free ((same_upd hp2 _).free hD)
  clear hL2 hp hD hp2 hms hms2 hL hi0 hend
  generalize upd (upd H2 p2 (.lst (cutV (ns.map V.int) none (some 1)))) D (.lst [V.ref L, .int 0, .int 8, .int (zz % 2)]) = H3 at dk s03 s3
  clear s3 s2 z1
  -- heads
  refine ⟨_, rfl, D, L, 999999, rfl, dk, fun y H4 _ _ g4 d4 => ?_⟩
  have my := mod_lt y (show (0 : Int) < 3 by decide)
  refine ⟨_, _, rfl, rfl, (by show (0 : Int) < 3; decide), _, rfl, (by (first | lia | omega)), (by (first | lia | omega)), fun R hR => ?_⟩
  have uR := same_upd hR (.lst [])
  refine ⟨Wd (y % 3).toNat (fun i σ acc H5 => ∃ (z : Option V) (hs : List (Str × Int)), σ = [z, some (.ref D)] ∧ hs.length = i ∧ acc.length = i ∧ Rps K (nw H4 H5 R) acc (hs.map hdD) ∧ (∀ p ∈ hs, (p.1 = "a" ∨ p.1 = "f") ∧ 0 ≤ p.2 ∧ p.2 ≤ 2) ∧ Gw D H4 H5 ∧ Dk D L (900000 + (2 - i)) H5 ∧ H5 R = some (.lst acc)), wd_0 ⟨none, [], rfl, rfl, rfl, .nil, (fun p hp => by cases hp), d4.gw uR, (d4.same uR).le (by (first | lia | omega)), upd_same⟩, ?_⟩
  rintro i m σ acc H5 ⟨rfl, hi0, z, hs, rfl, hl, al, ra, okH, g45, d5, hR5⟩
  refine rg_ask hi0 (fun hi => ?_) (fun hend => ?_)
  · obtain ⟨nm, hnm, hat⟩ := pickS (xs := ["a", "f"]) (i := 0 + i) (by (first | lia | omega)) (by show (0 + i : Int) < 2; (first | lia | omega))
    refine ⟨le2, fun l hl1 => ?_⟩
    have u1 := same_upd hl1 (.lst [V.str "a", .str "f"])
    have g56 := d5.gw u1
    refine ⟨_, rfl, l, _, _, .str nm, rfl, rfl, SqL.of upd_same, hat, _, rfl, D, L, 900000 + (2 - (i + 1)), rfl, (d5.same u1).le (by (first | lia | omega)), fun y6 H7 _ _ g7 d7 => ⟨_, _, rfl, rfl, (by show (0 : Int) < 3; decide), le2, fun t ht => ?_⟩⟩
    have u8 := same_upd ht (.tup [V.str nm, .int (y6 % 3)])
    have g57 := g56.trans g7
    have g58 := g57.trans (d7.gw u8)
    have g47 := g45.trans g57
    have hR7 := g57.at (g45.ne hR) hR5
    have nt : t ≠ R := fun e => by rw [e, hR7] at ht; cases ht
    have m6 := mod_lt y6 (show (0 : Int) < 3 by decide)
    refine ⟨u8 _ _ hR7, ?_, wd_next hi ⟨_, hs ++ [(nm, y6 % 3)], rfl, by rw [List.length_append, hl]; rfl, by rw [List.length_append, al]; rfl, ?_, ?_, (g45.trans g58).inR hR, (d7.same u8).inR d4 hR, upd_same⟩⟩
    · rw [al]
      exact line3 (show i ≤ 10 by (first | lia | omega)) (by decide)
    · rw [nw_upd, List.map_append]
      exact rps_snoc (ra.same (g45.oldR g58)) (.tup (SqT.of (nw_at (g47.free ht) nt upd_same)) (.cons (.str _) (.cons (.int _) .nil)))
    · intro p hp
      rcases List.mem_append.mp hp with hp | hp
      · exact okH p hp
      · rw [List.mem_singleton.mp hp]
        exact ⟨by simpa using hnm, m6.1, by show y6 % 3 ≤ 2; (first | lia | omega)⟩
  have hh : Hs K D H5 R hs := ⟨.lst (SqL.of (new_drop (g45.d0.choose_spec) _ _ (new_at hR hR5))) ((ra.same nw_le).same (new_drop g45.d0.choose_spec)), okH, by (first | lia | omega)⟩
  have nRD : R ≠ D := g45.ne hR
  have d5' : Dk D L 900000 H5 := d5.le (by (first | lia | omega))
  have g35 := g4.trans g45
  clear d5 g4 d4 uR
  -- subs
  refine ⟨le0, fun S hS0 => ⟨_, rfl, R, rfl, ⟨_, SqL.of (same_upd hS0 _ _ _ hR5)⟩, ?_⟩⟩
  have uS := same_upd hS0 (.lst [])
  have nRS : R ≠ S := ne_of_none hR5 hS0
  have st1 : stN 1 = 116 := rfl
  refine for_list (K := K) (a := R) (xs := acc) (fun i σ Hc => ∃ (g4 g5 g6 : Option V) (sbs : List Sub) (ac : List V), σ = [some (.ref a), some (.ref D), some (.ref R), some (.ref S), g4, g5, g6, none] ∧ ac.length = i ∧ sbs.length = i ∧ sbs.map Sub.name = (nms hs).take i ∧ Rps K (nw H5 Hc S) ac (sbs.map Sub.dat) ∧ (∀ s ∈ sbs, oks 2 s.body ∧ cins (nms hs) s.body) ∧ Gw D H5 Hc ∧ Dk D L (800000 + (2 - i) * 500) Hc ∧ Hc S = some (.lst ac)) ⟨none, none, none, [], [], rfl, rfl, rfl, rfl, .nil, (fun s hs => by cases hs), d5'.gw uS, (d5'.same uS).le (by (first | lia | omega)), upd_same⟩ (fun i σ Hc _ ⟨_, _, _, _, _, _, _, _, _, _, _, g, _⟩ => SqL.of (g.at nRD hR5)) ?_ ?_
  · rintro i x σ Hc hx ⟨g4, g5, g6, sbs, ac, rfl, acl, sl, snm, rS, okS, g, dc, hSc⟩
    have il : i < hs.length := by
      have := (List.getElem?_eq_some_iff.mp hx).1
      (first | lia | omega)
    have i2 : i < 2 := by have := hh.ln; (first | lia | omega)
    obtain ⟨dd, hdd, rx⟩ := rps_ix ra hx
    rw [List.getElem?_map, List.getElem?_eq_getElem il] at hdd
    cases Option.some.inj hdd
    obtain ⟨p, hp⟩ : ∃ p, hs[i] = p := ⟨_, rfl⟩
    rw [hp] at rx
    have hpm : p ∈ hs := by rw [← hp]; exact List.getElem_mem il
    have rx' : Rp K Hc x (hdD p) := rx.same (fun t o e => by
      have e1 := nw_le _ _ e
      obtain ⟨e2, e3⟩ := new_inv e1
      exact g.at (g45.ne e2) e3)
    obtain ⟨t, ts, rfl, ht, hts⟩ := Rp.tupO rx'
    obtain ⟨y1, ts, rfl, hy1, hts⟩ := hts.consO
    obtain ⟨y2, ts, rfl, hy2, hts⟩ := hts.consO
    cases hts.nilO
    cases hy1.strO
    cases hy2.intO
    obtain ⟨pn, p0, p2⟩ := okH p hpm
    refine ⟨t, _, rfl, ht, rfl, _, _, rfl, _, _, rfl, rfl, ?_⟩
    -- body
    refine ⟨_, rfl, _, rfl, D, L, 800000 + (2 - (i + 1)) * 500 + 499, rfl, dc.le (by (first | lia | omega)), fun z7 H7 _ _ g7 d7 => ?_⟩
    have m7 := mod_lt z7 (show (0 : Int) < 2 by decide)
    refine ⟨_, _, rfl, rfl, (by show (0 : Int) < 2; decide), _, _, rfl, rfl, _, rfl, D, L, R, 800000 + (2 - (i + 1)) * 500 + 5, hs, 1 + z7 % 2, rfl, by (first | lia | omega), by (first | lia | omega), d7.le (by rw [st1]; (first | lia | omega)), (hh.gw g).gw g7, fun l8 us8 b8 H8 g8 d8 e8 e8' r8 bl8 ok8 ci8 => ?_⟩
    have g57 := g.trans g7
    have hS7 := g7.at (d5'.rf.ne hS0) hSc
    have g58 := g57.trans g8
    have hS8 := g8.at (d5'.rf.ne hS0) hS7
    have f8 := g57.free e8
    have n8 : l8 ≠ S := fun e => by rw [e, hS7] at e8; cases e8
    have rB := r8.same (g57.youngR hS7)
    -- append
    refine ⟨_, rfl, .inl ⟨rfl, _, SqL.of hS8⟩, _, rfl, le2, fun l9 h9 => ?_⟩
    have u9 := same_upd h9 (.lst [V.str "a", .str "b"])
    refine ⟨_, rfl, p.2, rfl, l9, _, rfl, SqL.of upd_same, fun pA hpA => ?_⟩
    obtain ⟨ys, hys, yl⟩ := cutV_map V.str nAB none (some p.2)
    have uA := same_upd hpA (.lst (cutV [V.str "a", .str "b"] none (some p.2)))
    have eA : upd (upd H8 l9 (.lst [V.str "a", .str "b"])) pA (.lst (cutV [V.str "a", .str "b"] none (some p.2))) pA = some (.lst (ys.map V.str)) := by rw [upd_same]; exact congrArg (fun z => some (HO.lst z)) hys
    have gA := d8.gw (u9.trans uA)
    have dA := d8.same (u9.trans uA)
    have hSA := (u9.trans uA) _ _ hS8
    have eA8 := (u9.trans uA) _ _ e8'
    have fA := g58.free (u9.free hpA)
    have nA : pA ≠ S := fun e => by rw [e, u9 _ _ hS8] at hpA; cases hpA
    generalize upd (upd H8 l9 (.lst [V.str "a", .str "b"])) pA (.lst (cutV [V.str "a", .str "b"] none (some p.2))) = HA at gA dA hSA eA eA8
    refine ⟨_, rfl, le3, fun lB hB => ?_⟩
    have uB := same_upd hB (.lst [V.str "b", .str "c", .str "k"])
    refine ⟨_, rfl, p.2, rfl, lB, _, rfl, SqL.of upd_same, fun pC hpC => ?_⟩
    obtain ⟨xs, hxs, xl⟩ := cutV_map V.str nBCK (some p.2) none
    have uC := same_upd hpC (.lst (cutV [V.str "b", .str "c", .str "k"] (some p.2) none))
    have eC : upd (upd HA lB (.lst [V.str "b", .str "c", .str "k"])) pC (.lst (cutV [V.str "b", .str "c", .str "k"] (some p.2) none)) pC = some (.lst (xs.map V.str)) := by rw [upd_same]; exact congrArg (fun z => some (HO.lst z)) hxs
    have gC := dA.gw (uB.trans uC)
    have dC := dA.same (uB.trans uC)
    have hSC := (uB.trans uC) _ _ hSA
    have eA9 := (uB.trans uC) _ _ eA
    have eA10 := (uB.trans uC) _ _ eA8
    generalize upd (upd HA lB (.lst [V.str "b", .str "c", .str "k"])) pC (.lst (cutV [V.str "b", .str "c", .str "k"] (some p.2) none)) = HC at gC dC hSC eC eA9 eA10
    have xl' : xs.length ≤ 3 := xl
    refine ⟨D, L, pC, 800000 + (2 - (i + 1)) * 500 + 2, xs, rfl, eC, by (first | lia | omega), dC.le (by (first | lia | omega)), fun lE ps usE HE psl gE dE eE eE' rE => ?_⟩
    have g5C := g58.trans (gA.trans gC)
    have g5E := g5C.trans gE
    have g8E := gA.trans (gC.trans gE)
    have hSE := gE.at (d5'.rf.ne hS0) hSC
    have nE : lE ≠ S := fun e => by rw [e, hSC] at eE; cases eE
    have l8D := g57.ne f8
    have e8E := gE.at l8D eA10
    have eAE := gE.at (g58.ne fA) eA9
    refine ⟨_, rfl, lE, l8, usE, us8, rfl, rfl, eE', e8E, ?_, fun pF hF => ?_⟩
    · rw [rE.length, r8.length, List.length_map, List.length_map, letsB, List.length_map, psl]
      exact Nat.le_of_lt (line3 (show xs.length + b8.length ≤ 100 by (first | lia | omega)) (by decide))
    have uF := same_upd hF (.lst (usE ++ us8))
    refine ⟨le3, fun tG hG => ?_⟩
    have uG := same_upd hG (.tup [V.str p.1, .ref pA, .ref pF])
    have gG := dE.gw (uF.trans uG)
    have g5G := g5E.trans gG
    have hSG := (uF.trans uG) _ _ hSE
    have nF : pF ≠ S := fun e => by rw [e, hSE] at hF; cases hF
    have nG : tG ≠ S := fun e => by rw [e, uF _ _ hSE] at hG; cases hG
    refine ⟨S, _, _, rfl, rfl, hSG, ?_, _, _, _, sbs ++ [⟨p.1, ys, letsB ps ++ b8⟩], ac ++ [.ref tG], rfl, by rw [List.length_append, acl]; rfl, by rw [List.length_append, sl]; rfl, ?_, ?_, ?_, g5G.inR hS0, ((dE.same (uF.trans uG)).le (by (first | lia | omega))).inR d5' hS0, upd_same⟩
    · rw [acl]
      exact line3 (show i ≤ 10 by (first | lia | omega)) (by decide)
    · have : (nms hs).take (i + 1) = (nms hs).take i ++ [p.1] := by
        rw [List.take_add_one]
        unfold nms
        rw [List.getElem?_map, List.getElem?_eq_getElem il, hp]
        rfl
      rw [this, List.map_append, snm]
      rfl
    · rw [nw_upd, List.map_append]
      refine rps_snoc (rS.same (g.oldR (g7.trans (g8.trans (g8E.trans gG))))) ?_
      show Rp K _ _ (Sub.dat ⟨p.1, ys, letsB ps ++ b8⟩)
      rw [Sub.dat, dats_map, List.map_append]
      refine .tup (SqT.of (nw_at (g5E.free (uF.free hG)) nG upd_same)) (.cons (.str _) (.cons (.lst (SqL.of (nw_at fA nA ((uF.trans uG) _ _ eAE))) ?_) (.cons (.lst (SqL.of (nw_at (g5E.free hF) nF (uG _ _ upd_same))) ?_) .nil)))
      · have : ∀ zs : List Str, Rps K (nw H5 (upd (upd HE pF (.lst (usE ++ us8))) tG (.tup [V.str p.1, .ref pA, .ref pF])) S) (zs.map V.str) (zs.map PyData.str) := fun zs => by
          induction zs with
          | nil => exact .nil
          | cons z r ih => exact .cons (.str _) ih
        exact this ys
      · exact rps_append (rE.same ((g5C.youngR hSC).trans (g5E.oldR gG))) (rB.same (g58.oldR (g8E.trans gG)))
    · intro s hs
      rcases List.mem_append.mp hs with hs | hs
      · exact okS s hs
      · rw [List.mem_singleton.mp hs]
        exact ⟨oks_append (letsB_ok _) ok8, cins_append (letsB_cin _) ci8⟩
  -- behind the loop
  rintro σ H6 ⟨g4, g5, g6, sbs, ac, rfl, acl, sl, snm, rS, okS, g, dc, hSc⟩
  have hln := hh.ln
  have snm' : sbs.map Sub.name = nms hs := by
    rw [snm, al, ← hl]
    exact List.take_of_length_le (by unfold nms; rw [List.length_map]; exact Nat.le_refl _)
  have nSD := d5'.rf.ne hS0
  refine ⟨_, rfl, le4, fun l7 h7 => ?_⟩
  have u7 := same_upd h7 (.lst [V.str "a", .str "b", .str "c", .str "k"])
  have g67 := dc.gw u7
  refine ⟨D, L, l7, 790000, nABCK, rfl, upd_same, by show 4 ≤ 10; decide, (dc.same u7).le (by show 790000 + 4 ≤ _; (first | lia | omega)), fun lE ps usE HE psl gE dE eE eE' rE => ?_⟩
  have psl' : ps.length = 4 := psl
  obtain ⟨nsE, atE, bE, mxE, hDE, hLE, nlE, aE0, aE1⟩ := id dE
  refine ⟨_, rfl, D, _, 2, 2, rfl, rfl, hDE, rfl, ?_⟩
  have g6E := g67.trans gE
  have g5E := g.trans g6E
  have hSE := g6E.at nSD hSc
  have nlD : lE ≠ D := gE.ne eE
  have nlS : lE ≠ S := fun e => by rw [e, u7 _ _ hSc] at eE; cases eE
  have rS' := rS.same (g.oldR g6E)
  have rL := rE.same ((g.trans g67).youngR (u7 _ _ hSc))
  have fE : H5 lE = none := (g.trans g67).free eE
  have hDF : upd HE D (.lst (deckV L atE 8 mxE)) D = some (.lst (deckV L atE 8 mxE)) := upd_same
  have dF : Dk D L 790000 (upd HE D (.lst (deckV L atE 8 mxE))) := ⟨nsE, atE, 8, mxE, upd_same, by rw [upd_ne (Dk.neL hDE hLE)]; exact hLE, nlE, aE0, aE1⟩
  have gEF : Gw D HE (upd HE D (.lst (deckV L atE 8 mxE))) := ⟨by rw [drop_upd_same]; exact Same.refl _, ⟨_, hDE⟩, ⟨_, hDF⟩⟩
  rw [show (deckV L atE bE mxE).set 2 (V.int 8) = deckV L atE 8 mxE from rfl]
  generalize upd HE D (.lst (deckV L atE 8 mxE)) = HF at dF gEF hDF
  clear hDF
  have st2 : stN 2 = 948 := rfl
  refine ⟨_, rfl, _, rfl, _, rfl, _, rfl, D, L, 789999, rfl, dF, fun z8 H8 _ _ g8 d8 => ?_⟩
  have m8 := mod_lt z8 (show (0 : Int) < 4 by decide)
  have g5F := g5E.trans gEF
  have g58 := g5F.trans g8
  refine ⟨_, _, rfl, rfl, (by show (0 : Int) < 4; decide), _, _, rfl, rfl, _, rfl, D, L, R, 100, hs, 1 + z8 % 4, rfl, by (first | lia | omega), by (first | lia | omega), d8.le (by rw [st2]; (first | lia | omega)), hh.gw g58, fun l9 us9 b9 H9 g9 d9 e9 e9' r9 bl9 ok9 ci9 => ?_⟩
  refine ⟨_, rfl, D, L, 99, rfl, d9, fun zT HT' _ _ gT dT => ⟨_, _, rfl, rfl, (by show (0 : Int) < 4; decide), le4, fun t ht => ?_⟩⟩
  have mT := mod_lt zT (show (0 : Int) < 4 by decide)
  have uT := same_upd ht (.tup [V.ref S, .ref lE, .ref l9, .int (zT % 4)])
  have g9T := gT.trans (dT.gw uT)
  have g59 := g58.trans g9
  have gEn := gEF.trans (g8.trans (g9.trans g9T))
  have g3n := g35.trans (g5E.trans gEn)
  refine q t S lE l9 (zT % 4) ac usE us9 sbs (letsB ps) b9 _ (fun b o e => ?_) upd_same (gEn.at nSD hSE) (rS'.same ?_) (gEn.at nlD eE') (rL.same ?_) (g9T.at (g58.ne (g58.free e9)) e9') (r9.same ?_) ?_
  · exact g3n.at (fun z => by rw [z, nD] at e; cases e) (s03 b o e)
  · exact (g5E.oldR gEn).trans (nw_le.trans new_le)
  · exact (g5E.oldR gEn).trans (nw_le.trans new_le)
  · exact (g58.young.trans (g59.old g9T)).trans new_le
  · refine ⟨by (first | lia | omega), by rw [letsB, List.length_map]; (first | lia | omega), bl9, fun s hs => (okS s hs).1, letsB_ok _, ok9, mT.1, mT.2, ⟨nms hs, fun x hx => ?_, letsB_cin _, ci9⟩, subOf_out ?_⟩
    · rw [← snm'] at hx
      obtain ⟨sb, h1, h2⟩ := subOf_in hx
      exact ⟨sb, h2, (okS sb h1).2⟩
    · rw [snm']
      intro hx
      obtain ⟨p, hp, e⟩ := List.mem_map.mp hx
      rcases (okH p hp).1 with z | z
      · rw [z] at e; revert e; decide
      · rw [z] at e; revert e; decide
end
end Car

set_option maxHeartbeats 1000000
namespace Car
open PySem L2
noncomputable abbrev sBegins : Stmt := top 25
theorem cut_take {α : Type} (g : α → V) (xs : List α) (k : Nat) : cutV (xs.map g) none (some (k : Int)) = (xs.take k).map g := by
  unfold cutV
  rw [HT.sIx_none, HT.sIx_nat, List.drop_zero, ← List.map_take, List.length_map, Nat.sub_zero]
  congr 1
  rcases Nat.le_total k xs.length with h | h
  · rw [Nat.min_eq_left h]
  · rw [Nat.min_eq_right h, List.take_of_length_le (Nat.le_refl _), List.take_of_length_le h]
theorem MvAt.take {H : Hp} : ∀ {ts : List Addr} {ms : List (List V)} (n : Nat), MvAt H ts ms → MvAt H (ts.take n) (ms.take n)
  | [], [], n, _ => by rw [List.take_nil, List.take_nil]; trivial
  | _ :: _, _ :: _, 0, _ => by rw [List.take_zero, List.take_zero]; trivial
  | t :: ts, m :: ms, n + 1, h => by
    rw [List.take_succ_cons, List.take_succ_cons]
    exact ⟨h.1, MvAt.take n h.2⟩
theorem mvs_shaped {ms : List (List V)} (h : Sc ms) : SeqAt.shaped (.list (ms.map mvD)) = true ∧ PyData.eqv (.list (ms.map mvD)) (.list (ms.map mvD)) = true := by
  obtain ⟨a, b⟩ := mvs_can h
  have e : PyData.canLay0 (.list (ms.map mvD)) = true := by rw [PyData.canLay0, a]
  refine ⟨?_, eqv_self _ e⟩
  unfold SeqAt.shaped
  rw [e, Bool.true_and, PyData.depth]
  exact decide_eq_true (by (first | lia | omega))
noncomputable def TAt (K : PySem.W.Frag) (H : Hp) (t : Addr) (r : List (List V) × PyData) : Prop := ∃ m e ts, H t = some (.tup [.ref m, e]) ∧ H m = some (.lst (ts.map V.ref)) ∧ MvAt H ts r.1 ∧ Rp K H e r.2
theorem TAt.same {K : PySem.W.Frag} {H H' : Hp} {t : Addr} {r : List (List V) × PyData} (h : TAt K H t r) (s : Same H H') : TAt K H' t r := by
  obtain ⟨m, e, ts, h1, h2, h3, h4⟩ := h
  exact ⟨m, e, ts, s _ _ h1, s _ _ h2, h3.same s, h4.same s⟩
theorem TAt.rp {K : PySem.W.Frag} {H : Hp} {t : Addr} {r : List (List V) × PyData} (h : TAt K H t r) (sc : Sc r.1) : Rp K H (.ref t) (resD r) := by
  obtain ⟨m, e, ts, h1, h2, h3, h4⟩ := h
  exact .tup (SqT.of h1) (.cons (.lst (SqL.of h2) (mvs_rp sc h3)) (.cons h4 .nil))
section
variable {P : Program} {w : World} {K : PySem.W.Frag} {mg : Str → Option Value} {base : Heap} {f : Addr} {fd' : FuncData}
theorem Told.at {H H' : Hp} {t : Addr} {r : List (List V) × PyData} (h : Told K H H' t r) : TAt K H' t r := by
  obtain ⟨m, e, ts, h1, h2, h3, h4, _⟩ := h
  exact ⟨m, e, ts, h1, h2, h3, h4⟩
noncomputable def spBegins (K : PySem.W.Frag) : Sp := fun vs H Q _ => ∃ (t1 t2 : Addr) (r1 r2 : List (List V) × PyData), vs = [.ref t1, .ref t2] ∧ TAt K H t1 r1 ∧ TAt K H t2 r2 ∧ Sc r1.1 ∧ r1.1 <+: r2.1 ∧ ∀ H', Same H H' → Q (.bl true) H'
theorem scBegins : FnScope ["found", "whole"] ["found", "whole"] (defScope sBegins) := ⟨rfl, rfl, rfl, by decide +kernel, rfl, by decide +kernel, by decide +kernel⟩
theorem ok_begins (TT : LawT mg) (F : Fun K "_law_begins" "_law_begins" sBegins f fd') : FnOk P w K mg base (CX1 P w) 1 f fd' ["found", "whole"] (spBegins K) := by
  have nd := scBegins.nd
  refine F.ok1 scBegins (fun vs H Q E h => ?_) (fun cdv A outer s H vs Q E hr h => ?_)
  · obtain ⟨_, _, _, _, rfl, _⟩ := h
    rfl
  obtain ⟨t1, t2, r1, r2, rfl, h1, h2, sc, pre, q⟩ := h
  refine ⟨_, (pss_one (ps_ret (pe_cmpR (op_eqD hr.units) (pe_ix ix_tup (pv 0) pe_int (fun _ _ => rfl)) (pe_slice sl_list (pe_ix ix_tup (pv 1) pe_int (fun _ _ => rfl)) po_none (po_some (pe_callB call_len_seq rfl TT.len PySem.boot_len (pa_cons (pe_ix ix_tup (pv 0) pe_int (fun _ _ => rfl)) pa_nil)))) (nomark _)))), ?_⟩
  obtain ⟨m1, e1, ts1, a1, a2, a3, a4⟩ := h1
  obtain ⟨m2, e2, ts2, b1, b2, b3, b4⟩ := h2
  refine ⟨_, rfl, _, _, _, _, rfl, rfl, SqT.of a1, rfl, _, rfl, _, _, _, _, rfl, rfl, SqT.of b1, rfl, _, rfl, _, _, _, _, rfl, rfl, SqT.of a1, rfl, m1, _, rfl, .inl (SqL.of a2), _, rfl, m2, _, rfl, SqL.of b2, fun p hp => ?_⟩
  rw [List.length_map, cut_take]
  have u := same_upd hp (.lst ((ts2.take ts1.length).map V.ref))
  have e : r2.1.take ts1.length = r1.1 := by
    rw [a3.len]
    exact (List.prefix_iff_eq_take.mp pre).symm
  have b5 := b3.take ts1.length
  rw [e] at b5
  obtain ⟨sh, eq⟩ := mvs_shaped sc
  refine ⟨_, _, .lst (SqL.of (u _ _ a2)) (mvs_rp sc (a3.same u)), .lst (SqL.of upd_same) (mvs_rp sc (b5.same u)), sh, sh, ?_⟩
  rw [eq]
  exact q _ u
end
end Car

set_option maxHeartbeats 1000000
namespace Car
open PySem L2
theorem unr_snoc (x : Str) (b : List Stm) : ∀ (n : Nat) (t : Int), unr x b (n + 1) t = unr x b n t ++ (.lt x (.num (t + n)) :: b)
  | 0, t => by
    rw [unr, unr, unr, List.append_nil, List.nil_append]
    simp
  | n + 1, t => by
    rw [unr, unr_snoc x b n (t + 1), unr, List.cons_append, List.append_assoc]
    rw [show t + 1 + (n : Int) = t + ((n + 1 : Nat) : Int) by (first | lia | omega)]
theorem oks_unr {k : Nat} {x : Str} {b : List Stm} (h : oks k b) : ∀ (n : Nat) (t : Int), oks k (unr x b n t)
  | 0, _ => by rw [unr, oks]; trivial
  | n + 1, t => by
    rw [unr, oks, Stm.ok]
    exact ⟨⟨True.intro, Nat.zero_le _⟩, oks_append h (oks_unr h n (t + 1))⟩
mutual
theorem cin_mono {N N' : List Str} (hN : ∀ x ∈ N, x ∈ N') : ∀ (s : Stm), s.cin N → s.cin N'
  | .hold ex, h => by
    rw [Stm.cin] at h ⊢
    exact h
  | .move k a ex y, h => by
    rw [Stm.cin] at h ⊢
    exact h
  | .lt x ex, h => by
    rw [Stm.cin] at h ⊢
    exact h
  | .call x es, h => by
    rw [Stm.cin] at h ⊢
    exact ⟨hN _ h.1, h.2⟩
  | .times x ex b, h => by
    rw [Stm.cin] at h ⊢
    exact ⟨h.1, cins_mono hN b h.2⟩
  | .iff s ex fx b c, h => by
    rw [Stm.cin] at h ⊢
    exact ⟨h.1, h.2.1, cins_mono hN b h.2.2.1, cins_mono hN c h.2.2.2⟩
theorem cins_mono {N N' : List Str} (hN : ∀ x ∈ N, x ∈ N') : ∀ (b : List Stm), cins N b → cins N' b
  | [], _ => by
    rw [cins]
    trivial
  | s :: r, h => by
    rw [cins] at h ⊢
    exact ⟨cin_mono hN s h.1, cins_mono hN r h.2⟩
end
noncomputable abbrev sM : Str := "m"
noncomputable def restB : List Stm := [.hold (.nam "i")]
noncomputable def loopB (lets body : List Stm) (turns : Int) : List Stm := lets ++ (.times "i" (.num turns) body :: restB)
noncomputable def plainB (lets body : List Stm) (n : Nat) : List Stm := lets ++ (unr "i" body n 0 ++ restB)
structure Gd (p : Prog) : Prop where
  ok : p.ok 2
  nb : runN 4001 (S0 p) ≠ .bad
  sc : Sc (runP p).1
  en : EndOk (runP p).2
theorem gd_of {p : Prog} {N : List Str} (ok : p.ok 2) (hN : ∀ x ∈ N, ∃ sb, subOf x p.subs = some sb ∧ cins N sb.body) (hb : cins N p.body) : Gd p ∧ runP p = evRes (exD p.subs 10 p.body ⟨0, [], begN, []⟩) ∧ exD p.subs 10 p.body ⟨0, [], begN, []⟩ ≠ .bad := by
  obtain ⟨a, b⟩ := runP_ev ok.1 ok.2.2
  have fin := finD hN 10 p.body hb ⟨0, [], begN, []⟩ (fun m hm => by cases hm)
  obtain ⟨c, d⟩ := fin.res
  exact ⟨⟨ok, b fin.nb, by rw [a]; exact c, by rw [a]; exact d⟩, a, fin.nb⟩
noncomputable def subM (lets body : List Stm) (turns : Int) : Sub := ⟨"m", [], loopB lets body turns⟩
noncomputable def p1 (subs : List Sub) (lets body : List Stm) (turns : Int) : Prog := ⟨subs, loopB lets body turns⟩
noncomputable def p2 (subs : List Sub) (lets body : List Stm) (turns : Int) : Prog := ⟨subs, plainB lets body turns.toNat⟩
noncomputable def p3 (subs : List Sub) (lets body : List Stm) (turns : Int) : Prog := ⟨subs ++ [subM lets body turns], [.call "m" []]⟩
structure All3 (subs : List Sub) (lets body : List Stm) (turns : Int) : Prop where
  g1 : Gd (p1 subs lets body turns)
  g2 : Gd (p2 subs lets body turns)
  g3 : Gd (p3 subs lets body turns)
  a : (runP (p1 subs lets body turns)).1 <+: (runP (p2 subs lets body turns)).1
  b : (runP (p1 subs lets body turns)).2 = dLong ∨ runP (p1 subs lets body turns) = runP (p2 subs lets body turns)
  c : (runP (p3 subs lets body turns)).1 <+: (runP (p1 subs lets body turns)).1
  d : ((runP (p3 subs lets body turns)).2 = dLong ∨ (runP (p3 subs lets body turns)).2 = dDeep) ∨ runP (p3 subs lets body turns) = runP (p1 subs lets body turns)
theorem strI : PyData.strOk "i" = true := by decide +kernel
theorem all3 {subs : List Sub} {lets body : List Stm} {turns : Int} (pts : Pts subs lets body turns) : All3 subs lets body turns := by
  obtain ⟨N, hN, cl, cb⟩ := pts.nm
  have ro : oks 2 restB := by rw [restB, oks, oks, Stm.ok]; exact ⟨⟨True.intro, Nat.zero_le _⟩, trivial⟩
  have rc : ∀ N, cins N restB := fun N => by rw [restB, cins, cins, Stm.cin]; exact ⟨strI, trivial⟩
  have lo : oks 2 (loopB lets body turns) := oks_append pts.lo (by rw [oks, Stm.ok]; exact ⟨⟨True.intro, Nat.zero_le _, pts.bo⟩, ro⟩)
  have lc : cins N (loopB lets body turns) := cins_append cl (by rw [cins, Stm.cin]; exact ⟨⟨True.intro, cb⟩, rc N⟩)
  obtain ⟨g1, e1, n1⟩ := gd_of (p := p1 subs lets body turns) ⟨lo, Nat.le_trans pts.sl (by decide), pts.so⟩ hN lc
  obtain ⟨g2, e2, n2⟩ := gd_of (p := p2 subs lets body turns) ⟨oks_append pts.lo (oks_append (oks_unr pts.bo _ _) ro), Nat.le_trans pts.sl (by decide), pts.so⟩ hN (cins_append cl (cins_append (cins_unr cb _ _) (rc N)))
  have hm : ∀ x ∈ N, x ∈ sM :: N := fun x hx => List.mem_cons_of_mem _ hx
  have hN3 : ∀ x ∈ sM :: N, ∃ sb, subOf x (subs ++ [subM lets body turns]) = some sb ∧ cins (sM :: N) sb.body := fun x hx => by
    rw [subOf_snoc]
    by_cases z : (subM lets body turns).name = x
    · rw [if_pos z]
      exact ⟨_, rfl, cins_mono hm _ lc⟩
    · rw [if_neg z]
      rcases List.mem_cons.mp hx with y | y
      · exact absurd y.symm z
      · obtain ⟨sb, h1, h2⟩ := hN x y
        exact ⟨sb, h1, cins_mono hm _ h2⟩
  obtain ⟨g3, e3, n3⟩ := gd_of (p := p3 subs lets body turns) (N := "m" :: N) ⟨by show oks 2 [.call "m" []]; rw [oks, oks, Stm.ok]; exact ⟨⟨by decide, fun x hx => by cases hx⟩, trivial⟩, by show (subs ++ [_]).length ≤ 1000; rw [List.length_append]; have := pts.sl; show subs.length + 1 ≤ 1000; (first | lia | omega), fun s hs => by
      rcases List.mem_append.mp hs with hs | hs
      · exact pts.so s hs
      · rw [List.mem_singleton.mp hs]
        exact lo⟩ hN3 (by show cins _ [.call "m" []]; rw [cins, cins, Stm.cin]; exact ⟨⟨List.mem_cons_self, fun x hx => by cases hx⟩, trivial⟩)
  have lag := lag_loop (subs := subs) (d := 10) (lets := lets) (b := body) (rest := restB) (x := "i") (n := turns) (e := ⟨0, [], begN, []⟩) (by decide) pts.t0 (by have := pts.t4; (first | lia | omega))
  obtain ⟨a, b⟩ := lag.res n1 n2
  obtain ⟨R, hR, hRb, lagR⟩ := lag_called (subs := subs) (m := subM lets body turns) rfl pts.nom
  have hRn : R ≠ .bad := hRb n3
  obtain ⟨c, d⟩ := lagR.res hRn n1
  rw [← hR] at c d
  exact ⟨g1, g2, g3, by rw [e1, e2]; exact a, by rw [e1, e2]; exact b, by rw [e1, e3]; exact c, by rw [e1, e3]; exact d⟩
end Car

set_option maxHeartbeats 1000000
namespace Car
open PySem L2
noncomputable abbrev sLaw : Stmt := top 26
theorem _root_.L2.Room.units65 {k : Nat} {A : Around} (r : Room k A) : A.units + 65 < cLine := by have := r.un; (first | lia | omega)
theorem loop_dat (lets body : List Stm) (turns : Int) : (loopB lets body turns).map Stm.dat = lets.map Stm.dat ++ [Stm.dat (.times "i" (.num turns) body)] ++ restB.map Stm.dat := by
  rw [loopB, List.map_append, List.map_cons, List.append_assoc]
  rfl
theorem unr_dat (lets body : List Stm) (i : Nat) : (lets ++ unr "i" body (i + 1) 0).map Stm.dat = (lets ++ unr "i" body i 0).map Stm.dat ++ [Stm.dat (.lt "i" (.num (0 + i)))] ++ body.map Stm.dat := by
  rw [unr_snoc, ← List.append_assoc, List.map_append, List.map_cons, List.append_assoc]
  rfl
theorem end_shaped {d : PyData} (h : EndOk d) : SeqAt.shaped d = true := by
  unfold SeqAt.shaped
  rw [h.1, Bool.true_and]
  exact decide_eq_true (by have := h.2; (first | lia | omega))
theorem neT {b : Bool} (h : b = true) : (if true = true then !b else b) = false := by rw [h]; rfl
section
variable {P : Program} {w : World} {K : PySem.W.Frag} {mg : Str → Option Value} {base : Heap} {f : Addr} {fd' : FuncData}
noncomputable def spLaw (K : PySem.W.Frag) : Sp := fun vs H Q _ => ∃ (a : Addr) (ns : List Int), vs = [.ref a] ∧ SqL K H a (ns.map V.int) ∧ ns.length ≤ 63 ∧ ∀ H', Q (.bl true) H'
theorem scLaw : FnScope ["script", "subs", "lets", "body", "turns", "rest", "looped", "plain", "k", "one", "other", "called"] ["script"] (defScope sLaw) := ⟨rfl, rfl, rfl, by decide +kernel, rfl, by decide +kernel, by decide +kernel⟩
theorem ok_law (TT : LawT mg) (FP : Fn P w K mg base "_law_parts" 13 ["script"] (spParts K)) (FG : Fn P w K mg base "_law_begins" 1 ["found", "whole"] (spBegins K)) (FR : Fn P w K mg base "run_plainly" 12 ["program"] (spRun 2 K)) (F : Fun K "law" "law" sLaw f fd') :
    FnOk P w K mg base (CX1 P w) 14 f fd' ["script"] (spLaw K) := by
  have nd := scLaw.nd
  refine F.ok1 scLaw (fun vs H Q E h => ?_) (fun cdv A outer s H vs Q E hr h => ?_)
  · obtain ⟨a, ns, rfl, _⟩ := h
    rfl
  obtain ⟨a, ns, rfl, hS, hn, q⟩ := h
  have hr1 : Room 1 _ := hr.mono (by decide)
  have hr12 : Room 12 _ := hr.mono (by decide)
  refine ⟨_, (pss_cons (ps_asg (pf_call FP hr rfl (pass1 (E := E)) (pa_cons (pv 0) pa_nil)) (pg_tup (n := 4) rfl (pgs_cons (pg_name (i := 1) nd rfl (Or.inl rfl)) (pgs_cons (pg_name (i := 2) nd rfl (Or.inl rfl)) (pgs_cons (pg_name (i := 3) nd rfl (Or.inl rfl)) (pgs_cons (pg_name (i := 4) nd rfl (Or.inl rfl)) pgs_nil))))))
    (pss_cons (ps_set (i := 5) nd rfl (Or.inl rfl) (pe_lst (pa_cons (pe_tup (pa_cons pe_str (pa_cons (pe_tup (pa_cons pe_str (pa_cons pe_str pa_nil))) pa_nil))) pa_nil)))
    (pss_cons (ps_set (i := 6) nd rfl (Or.inl rfl) (pe_op op_cat (pe_op op_cat (pv 2) (pe_lst (pa_cons (pe_tup (pa_cons pe_str (pa_cons pe_str (pa_cons (pe_tup (pa_cons pe_str (pa_cons (pv 4) pa_nil))) (pa_cons (pv 3) pa_nil))))) pa_nil))) (pv 5)))
    (pss_cons (ps_set (i := 7) nd rfl (Or.inl rfl) (pe_callTy call_list_of rfl TT.list bt_list (pa_cons (pv 2) pa_nil)))
    (pss_cons (ps_for own1 rfl (pi_range1 rfl TT.range (pa_cons (pv 4) pa_nil)) (pg_name (i := 8) nd rfl (Or.inl rfl)) (pss_one (ps_set (i := 7) nd rfl (Or.inl rfl) (pe_op op_cat (pe_op op_cat (pv 7) (pe_lst (pa_cons (pe_tup (pa_cons pe_str (pa_cons pe_str (pa_cons (pe_tup (pa_cons pe_str (pa_cons (pv 8) pa_nil))) pa_nil)))) pa_nil))) (pv 3)))))
    (pss_cons (ps_set (i := 9) nd rfl (Or.inl rfl) (pf_call FR hr12 rfl (pass1 (E := E)) (pa_cons (pe_tup (pa_cons (pv 1) (pa_cons (pv 6) pa_nil))) pa_nil)))
    (pss_cons (ps_set (i := 10) nd rfl (Or.inl rfl) (pf_call FR hr12 rfl (pass1 (E := E)) (pa_cons (pe_tup (pa_cons (pv 1) (pa_cons (pe_op op_cat (pv 7) (pv 5)) pa_nil))) pa_nil)))
    (pss_mid (ps_if (PW.pt (pw_or (PW.pt (pw_and (pt_cmpR (op_neD hr.units) (pe_ix ix_tup (pv 9) pe_int (fun _ _ => rfl)) (pe_tup (pa_cons pe_str pa_nil)) (nomark _)) (pw_and1 (pt_cmpR (op_neD hr.units) (pv 9) (pv 10) (nomark _))))) (pw_or1 (pt_not (pt_truth (pf_call FG hr1 rfl (pass1 (E := E)) (pa_cons (pv 9) (pa_cons (pv 10) pa_nil))) (fun _ => rfl)))))) (pss_one (ps_ret pe_bl)) pss_nil)
    (pss_cons (ps_set (i := 11) nd rfl (Or.inl rfl) (pf_call FR hr12 rfl (pass1 (E := E)) (pa_cons (pe_tup (pa_cons (pe_op op_cat (pv 1) (pe_lst (pa_cons (pe_tup (pa_cons pe_str (pa_cons (pe_lst pa_nil) (pa_cons (pv 6) pa_nil)))) pa_nil))) (pa_cons (pe_lst (pa_cons (pe_tup (pa_cons pe_str (pa_cons pe_str (pa_cons (pe_lst pa_nil) pa_nil)))) pa_nil)) pa_nil))) pa_nil)))
    (pss_cons (ps_if (pt_not (pt_truth (pf_call FG hr1 rfl (pass1 (E := E)) (pa_cons (pv 11) (pa_cons (pv 9) pa_nil))) (fun _ => rfl))) (pss_one (ps_ret pe_bl)) pss_nil)
    (pss_one (ps_ret (pe_or (pe_cmpR (op_inD hr.units65) (pe_ix ix_tup (pv 11) pe_int (fun _ _ => rfl)) (pe_lst (pa_cons (pe_tup (pa_cons pe_str pa_nil)) (pa_cons (pe_tup (pa_cons pe_str pa_nil)) pa_nil))) (by with_unfolding_all rfl)) (pe_one (pe_cmpR (op_eqD hr.units) (pv 11) (pv 9) (nomark _)))))))))))))))), ?_⟩
  refine ⟨_, rfl, a, ns, rfl, hS, hn, fun t sl ll bl turns vs us ws subs lets body H1 s1 ht hsl rS hll rL hbl rB pts => ⟨t, _, rfl, SqT.of ht, rfl, _, _, rfl, _, _, rfl, _, _, rfl, _, _, rfl, rfl, ?_⟩⟩
  have A3 := all3 pts
  have lenL : us.length ≤ 10 := by rw [rL.length, List.length_map]; exact pts.ll
  have lenB : ws.length ≤ 4 := by rw [rB.length, List.length_map]; exact pts.bl
  have lenS : vs.length ≤ 2 := by rw [rS.length, List.length_map]; exact pts.sl
  have t0 := pts.t0
  have t4 := pts.t4
  -- rest
  refine ⟨le2, fun x1 h1 => ⟨le2, fun x2 h2 => ⟨le1, fun rl h3 => ?_⟩⟩⟩
  have u1 := same_upd h1 (.tup [V.str "name", .str "i"])
  have u2 := same_upd h2 (.tup [V.str "hold", .ref x1])
  have u3 := same_upd h3 (.lst [V.ref x2])
  have s13 := u1.trans (u2.trans u3)
  have hrl : upd (upd (upd H1 x1 (.tup [V.str "name", .str "i"])) x2 (.tup [V.str "hold", .ref x1])) rl (.lst [V.ref x2]) rl = some (.lst [V.ref x2]) := upd_same
  have rR : Rps K (upd (upd (upd H1 x1 (.tup [V.str "name", .str "i"])) x2 (.tup [V.str "hold", .ref x1])) rl (.lst [V.ref x2])) [V.ref x2] (restB.map Stm.dat) := by
    refine .cons ?_ .nil
    rw [Stm.dat]
    exact .tup (SqT.of (u3 _ _ upd_same)) (.cons (.str _) (.cons (.tup (SqT.of (u3 _ _ (u2 _ _ upd_same))) (.cons (.str _) (.cons (.str _) .nil))) .nil))
  generalize upd (upd (upd H1 x1 (.tup [V.str "name", .str "i"])) x2 (.tup [V.str "hold", .ref x1])) rl (.lst [V.ref x2]) = H2 at s13 hrl rR
  clear u1 u2 u3
  -- looped
  refine ⟨_, rfl, _, rfl, le2, fun x3 h4 => ⟨_, rfl, le4, fun x4 h5 => ⟨le1, fun l5 h6 => ?_⟩⟩⟩
  have u1 := same_upd h4 (.tup [V.str "number", .int turns])
  have u2 := same_upd h5 (.tup [V.str "times", .str "i", .ref x3, .ref bl])
  have u3 := same_upd h6 (.lst [V.ref x4])
  have s23 := u1.trans (u2.trans u3)
  have hl5 : upd (upd (upd H2 x3 (.tup [V.str "number", .int turns])) x4 (.tup [V.str "times", .str "i", .ref x3, .ref bl])) l5 (.lst [V.ref x4]) l5 = some (.lst [V.ref x4]) := upd_same
  have rT : Rp K (upd (upd (upd H2 x3 (.tup [V.str "number", .int turns])) x4 (.tup [V.str "times", .str "i", .ref x3, .ref bl])) l5 (.lst [V.ref x4])) (.ref x4) (Stm.dat (.times "i" (.num turns) body)) := by
    rw [Stm.dat, dats_map]
    exact .tup (SqT.of (u3 _ _ upd_same)) (.cons (.str _) (.cons (.str _) (.cons (.tup (SqT.of (u3 _ _ (u2 _ _ upd_same))) (.cons (.str _) (.cons (.int _) .nil))) (.cons (.lst (SqL.of (s23 _ _ (s13 _ _ hbl))) (rB.same (s13.trans s23))) .nil))))
  generalize upd (upd (upd H2 x3 (.tup [V.str "number", .int turns])) x4 (.tup [V.str "times", .str "i", .ref x3, .ref bl])) l5 (.lst [V.ref x4]) = H3 at s23 hl5 rT
  clear u1 u2 u3
  have s03 := s13.trans s23
  refine ⟨ll, l5, us, _, rfl, rfl, s03 _ _ hll, hl5, Nat.le_of_lt (line3 (show us.length + 1 ≤ 100 by (first | lia | omega)) (by decide)), fun l6 h7 => ?_⟩
  have u6 := same_upd h7 (.lst (us ++ [V.ref x4]))
  refine ⟨_, rfl, l6, rl, _, _, rfl, rfl, upd_same, u6 _ _ (s23 _ _ hrl), ?_, fun lp h8 => ?_⟩
  · rw [List.length_append]
    exact Nat.le_of_lt (line3 (show us.length + 1 + 1 ≤ 100 by (first | lia | omega)) (by decide))
  have u7 := same_upd h8 (.lst (us ++ [V.ref x4] ++ [V.ref x2]))
  have s04 := s03.trans (u6.trans u7)
  have hlp : upd (upd H3 l6 (.lst (us ++ [V.ref x4]))) lp (.lst (us ++ [V.ref x4] ++ [V.ref x2])) lp = some (.lst (us ++ [V.ref x4] ++ [V.ref x2])) := upd_same
  have rP : Rps K (upd (upd H3 l6 (.lst (us ++ [V.ref x4]))) lp (.lst (us ++ [V.ref x4] ++ [V.ref x2]))) (us ++ [V.ref x4] ++ [V.ref x2]) ((loopB lets body turns).map Stm.dat) := by
    rw [loop_dat]
    exact ((rL.same s04).append (.cons (rT.same (u6.trans u7)) .nil)).append (rR.same (s23.trans (u6.trans u7)))
  have hrl4 := (u6.trans u7) _ _ (s23 _ _ hrl)
  have rR4 := rR.same (s23.trans (u6.trans u7))
  generalize upd (upd H3 l6 (.lst (us ++ [V.ref x4]))) lp (.lst (us ++ [V.ref x4] ++ [V.ref x2])) = H4 at s04 hlp rP hrl4 rR4
  clear u6 u7 rT hl5 hrl rR s23 s03 s13
  -- plain
  refine ⟨_, rfl, ll, us, rfl, .inl (SqL.of (s04 _ _ hll)), fun pl0 h9 => ?_⟩
  have u9 := same_upd h9 (.lst us)
  refine ⟨_, rfl, turns, rfl, (by (first | lia | omega)), (by (first | lia | omega)), ?_⟩
  refine for_range (fun i σ Hc => ∃ (pl : Addr) (x8 : Option V) (ps : List V), σ = [some (.ref a), some (.ref sl), some (.ref ll), some (.ref bl), some (.int turns), some (.ref rl), some (.ref lp), some (.ref pl), x8, none, none, none] ∧ Same H4 Hc ∧ Hc pl = some (.lst ps) ∧ ps.length ≤ 10 + 5 * i ∧ Rps K Hc ps ((lets ++ unr "i" body i 0).map Stm.dat)) ⟨pl0, none, us, rfl, u9, upd_same, by (first | lia | omega), by rw [unr, List.append_nil]; exact rL.same (s04.trans u9)⟩ ?_ ?_
  · rintro i σ Hc hi ⟨pl, x8, ps, rfl, sc, hpl, lp', rp⟩
    refine ⟨_, rfl, _, rfl, le2, fun y1 k1 => ⟨le3, fun y2 k2 => ⟨le1, fun y3 k3 => ?_⟩⟩⟩
    have v1 := same_upd k1 (.tup [V.str "number", .int (0 + i)])
    have v2 := same_upd k2 (.tup [V.str "let", .str "i", .ref y1])
    have v3 := same_upd k3 (.lst [V.ref y2])
    have v13 := v1.trans (v2.trans v3)
    refine ⟨pl, y3, ps, _, rfl, rfl, v13 _ _ hpl, upd_same, Nat.le_of_lt (line3 (show ps.length + 1 ≤ 100 by (first | lia | omega)) (by decide)), fun y4 k4 => ?_⟩
    have v4 := same_upd k4 (.lst (ps ++ [V.ref y2]))
    have s0c := s04.trans (sc.trans v13)
    refine ⟨_, rfl, y4, bl, _, ws, rfl, rfl, upd_same, v4 _ _ (s0c _ _ hbl), ?_, fun y5 k5 => ?_⟩
    · rw [List.length_append]
      exact Nat.le_of_lt (line3 (show ps.length + 1 + ws.length ≤ 100 by (first | lia | omega)) (by decide))
    have v5 := same_upd k5 (.lst (ps ++ [V.ref y2] ++ ws))
    have v45 := v4.trans v5
    refine ⟨y5, _, ps ++ [V.ref y2] ++ ws, rfl, sc.trans (v13.trans v45), upd_same, ?_, ?_⟩
    · rw [List.length_append, List.length_append]
      show ps.length + 1 + ws.length ≤ _
      (first | lia | omega)
    · rw [unr_dat]
      refine ((rp.same (v13.trans v45)).append (.cons ?_ .nil)).append (rB.same (s0c.trans v45))
      rw [Stm.dat]
      exact .tup (SqT.of (v45 _ _ (v3 _ _ upd_same))) (.cons (.str _) (.cons (.str _) (.cons (.tup (SqT.of (v45 _ _ (v3 _ _ (v2 _ _ upd_same)))) (.cons (.str _) (.cons (.int _) .nil))) .nil)))
  rintro σ H5 ⟨pl, x8, ps, rfl, s45, hpl, lps, rpl⟩
  have s05 := s04.trans s45
  -- the loop's run
  refine ⟨_, rfl, _, rfl, le2, fun q1 e1 => ⟨.ref q1, p1 subs lets body turns, rfl, ?_, A3.g1.ok, A3.g1.nb, fun o1 H6 s6 told1 => ?_⟩⟩
  · have u := same_upd e1 (.tup [V.ref sl, .ref lp])
    exact .tup (SqT.of upd_same) (.cons (.lst (SqL.of (u _ _ (s05 _ _ hsl))) (rS.same (s05.trans u))) (.cons (by rw [dats_map]; exact .lst (SqL.of (u _ _ (s45 _ _ hlp))) (rP.same (s45.trans u))) .nil))
  have s56 : Same H5 H6 := (same_upd e1 _).trans s6
  have T1 := told1.at
  -- the plain one's
  refine ⟨_, rfl, _, rfl, _, rfl, pl, rl, ps, _, rfl, rfl, s56 _ _ hpl, s56 _ _ (s45 _ _ hrl4), Nat.le_of_lt (line3 (show ps.length + 1 ≤ 100 by (first | lia | omega)) (by decide)), fun l9 k9 => ⟨le2, fun q2 e2 => ⟨.ref q2, p2 subs lets body turns, rfl, ?_, A3.g2.ok, A3.g2.nb, fun o2 H7 s7 told2 => ?_⟩⟩⟩
  · have w1 := same_upd k9 (.lst (ps ++ [V.ref x2]))
    have w2 := same_upd e2 (.tup [V.ref sl, .ref l9])
    have w12 := w1.trans w2
    refine .tup (SqT.of upd_same) (.cons (.lst (SqL.of (w12 _ _ (s56 _ _ (s05 _ _ hsl)))) (rS.same (s05.trans (s56.trans w12)))) (.cons ?_ .nil))
    rw [dats_map]
    show Rp K _ _ (.list ((plainB lets body turns.toNat).map Stm.dat))
    rw [plainB, ← List.append_assoc, List.map_append]
    exact .lst (SqL.of (w2 _ _ upd_same)) ((rpl.same (s56.trans w12)).append (rR4.same (s45.trans (s56.trans w12))))
  have s67 : Same H6 H7 := (same_upd k9 _).trans ((same_upd e2 _).trans s7)
  have T2 := told2.at
  have T1' := T1.same s67
  have s57 := s56.trans s67
  -- alike
  refine ⟨fun σ H8 => σ = [some (.ref a), some (.ref sl), some (.ref ll), some (.ref bl), some (.int turns), some (.ref rl), some (.ref lp), some (.ref pl), x8, some (.ref o1), some (.ref o2), none] ∧ Same H7 H8, ?_, ?_⟩
  · obtain ⟨m1, e1', ts1, a1, a2, a3, a4⟩ := id T1'
    refine ⟨_, rfl, _, _, _, _, rfl, rfl, SqT.of a1, rfl, le1, fun z1 f1 => ?_⟩
    have w1 := same_upd f1 (.tup [V.str "long"])
    have T18 := T1'.same w1
    have T28 := T2.same w1
    refine ⟨_, dLong, a4.same w1, .tup (SqT.of upd_same) (.cons (.str _) .nil), end_shaped A3.g1.en, end_shaped end_long, _, rfl, ?_⟩
    generalize upd H7 z1 (.tup [V.str "long"]) = H8 at w1 T18 T28
    obtain ⟨sh1, eq1⟩ := resD_shaped A3.g1.sc A3.g1.en
    obtain ⟨sh2, eq2⟩ := resD_shaped A3.g2.sc A3.g2.en
    rcases A3.b with b | b
    · rw [neT (show PyData.eqv (runP (p1 subs lets body turns)).2 dLong = true by rw [b]; exact eqv_self _ end_long.1)]
      refine iteF (iteF ?_)
      exact ⟨_, rfl, _, rfl, o1, o2, _, _, rfl, T18, T28, A3.g1.sc, A3.a, fun H9 s9 => ⟨_, rfl, iteF ⟨rfl, w1.trans s9⟩⟩⟩
    · refine ite2 (fun _ => ?_) (fun _ => iteF ?_)
      · refine ⟨_, rfl, _, rfl, _, _, T18.rp A3.g1.sc, T28.rp A3.g2.sc, sh1, sh2, _, rfl, ?_⟩
        rw [neT (show PyData.eqv (resD (runP (p1 subs lets body turns))) (resD (runP (p2 subs lets body turns))) = true by rw [b]; exact eq2)]
        refine iteF ?_
        exact ⟨_, rfl, _, rfl, o1, o2, _, _, rfl, T18, T28, A3.g1.sc, A3.a, fun H9 s9 => ⟨_, rfl, iteF ⟨rfl, w1.trans s9⟩⟩⟩
      · exact ⟨_, rfl, _, rfl, o1, o2, _, _, rfl, T18, T28, A3.g1.sc, A3.a, fun H9 s9 => ⟨_, rfl, iteF ⟨rfl, w1.trans s9⟩⟩⟩
  rintro σ H8 ⟨rfl, s78⟩
  have T18 := T1'.same s78
  have s58 := s57.trans s78
  clear T1' T1 T2 told1 told2
  -- the called one
  refine ⟨_, rfl, le0, fun c1 i1 => ⟨_, rfl, le3, fun c2 i2 => ⟨le1, fun c3 i3 => ?_⟩⟩⟩
  have w1 := same_upd i1 (.lst [])
  have w2 := same_upd i2 (.tup [V.str "m", .ref c1, .ref lp])
  have w3 := same_upd i3 (.lst [V.ref c2])
  have w13 := w1.trans (w2.trans w3)
  have s5w := s58.trans w13
  refine ⟨sl, c3, vs, _, rfl, rfl, s5w _ _ (s05 _ _ hsl), upd_same, Nat.le_of_lt (line3 (show vs.length + 1 ≤ 100 by (first | lia | omega)) (by decide)), fun c4 i4 => ⟨le0, fun c5 i5 => ⟨le3, fun c6 i6 => ⟨le1, fun c7 i7 => ⟨le2, fun q3 e3 => ⟨.ref q3, p3 subs lets body turns, rfl, ?_, A3.g3.ok, A3.g3.nb, fun o3 H9 s9 told3 => ?_⟩⟩⟩⟩⟩⟩
  · have w4 := same_upd i4 (.lst (vs ++ [V.ref c2]))
    have w5 := same_upd i5 (.lst [])
    have w6 := same_upd i6 (.tup [V.str "call", .str "m", .ref c5])
    have w7 := same_upd i7 (.lst [V.ref c6])
    have w8 := same_upd e3 (.tup [V.ref c4, .ref c7])
    have w78 := w7.trans w8
    have w58 := w5.trans (w6.trans w78)
    have w48 := w4.trans w58
    refine .tup (SqT.of upd_same) (.cons (.lst (SqL.of (w58 _ _ upd_same)) ?_) (.cons ?_ .nil))
    · show Rps K _ _ ((subs ++ [subM lets body turns]).map Sub.dat)
      rw [List.map_append]
      refine (rS.same (s05.trans (s5w.trans w48))).append (.cons ?_ .nil)
      show Rp K _ _ (Sub.dat (subM lets body turns))
      rw [Sub.dat, dats_map]
      exact .tup (SqT.of (w48 _ _ (w3 _ _ upd_same))) (.cons (.str _) (.cons (.lst (SqL.of (w48 _ _ (w3 _ _ (w2 _ _ upd_same)))) .nil) (.cons (.lst (SqL.of (w48 _ _ (s5w _ _ (s45 _ _ hlp)))) (rP.same (s45.trans (s5w.trans w48)))) .nil)))
    · show Rp K _ _ (.list (dats [.call "m" []]))
      rw [dats, dats, Stm.dat]
      exact .lst (SqL.of (w8 _ _ upd_same)) (.cons (.tup (SqT.of (w78 _ _ upd_same)) (.cons (.str _) (.cons (.str _) (.cons (.lst (SqL.of ((w6.trans w78) _ _ upd_same)) .nil) .nil)))) .nil)
  have T3 := told3.at
  have s89 : Same H8 H9 := w13.trans ((same_upd i4 _).trans ((same_upd i5 _).trans ((same_upd i6 _).trans ((same_upd i7 _).trans ((same_upd e3 _).trans s9)))))
  have T19 := T18.same s89
  refine ⟨_, rfl, _, rfl, o3, o1, _, _, rfl, T3, T19, A3.g3.sc, A3.c, fun H10 s10 => ⟨_, rfl, iteF ?_⟩⟩
  have T3' := T3.same s10
  have T1' := T19.same s10
  obtain ⟨m3, e3', ts3, a1, a2, a3, a4⟩ := id T3'
  refine ⟨_, rfl, _, _, _, _, rfl, rfl, SqT.of a1, rfl, le1, fun d1 j1 => ⟨le1, fun d2 j2 => ⟨le2, fun d3 j3 => ?_⟩⟩⟩
  have w4 := same_upd j1 (.tup [V.str "long"])
  have w5 := same_upd j2 (.tup [V.str "deep"])
  have w6 := same_upd j3 (.lst [V.ref d1, .ref d2])
  have w46 := w4.trans (w5.trans w6)
  refine ⟨_, [dLong, dDeep], a4.same w46, .lst (SqL.of upd_same) (.cons (.tup (SqT.of (w6 _ _ (w5 _ _ upd_same))) (.cons (.str _) .nil)) (.cons (.tup (SqT.of (w6 _ _ upd_same)) (.cons (.str _) .nil)) .nil)), by decide +kernel, end_shaped A3.g3.en, _, rfl, ?_⟩
  obtain ⟨sh1, eq1⟩ := resD_shaped A3.g1.sc A3.g1.en
  obtain ⟨sh3, eq3⟩ := resD_shaped A3.g3.sc A3.g3.en
  rcases A3.d with d | d
  · have : ([dLong, dDeep].any fun z => PyData.eqv z (runP (p3 subs lets body turns)).2) = true := by
      rw [List.any_cons, List.any_cons]
      rcases d with d | d
      · rw [d, eqv_self _ end_long.1]; rfl
      · rw [d, eqv_self _ end_deep.1]; exact Bool.or_true _
    rw [this]
    exact iteT (q _)
  · refine ite2 (fun _ => q _) (fun _ => ?_)
    refine ⟨_, rfl, _, rfl, _, _, (T3'.same w46).rp A3.g3.sc, (T1'.same w46).rp A3.g1.sc, sh3, sh1, ?_⟩
    rw [d, eq1]
    exact q _
end
end Car

set_option maxHeartbeats 4000000
namespace Car
open PySem L2
structure FnT (K : PySem.W.Frag) (x : Str) (st : Stmt) (f : Addr) (fd : FuncData) : Prop where
  ns : PySem.W.nsIn K mainGlobals x = some (some (.ref f))
  fn : Fun K x x st f fd
theorem fnT_mk {K : PySem.W.Frag} {x : Str} {st : Stmt} {f : Addr} {oc : Value} {od an : Option Addr} {osl : Array (Option Value)} {kV doc pm cdv ct : Value} (a : PySem.W.nsIn K mainGlobals x = some (some (.ref f)))
    (l : K.lookup f = some ⟨oc, od, .func (PySem.W.fnOf x x (defArgs st) (defBody st) (defScope st) .none kV doc pm an cdv ct), osl⟩) (c : PySem.W.codeIn K cdv x = true) (k : PySem.W.keepIn K (.ref f) = true) : ∃ f fd, FnT K x st f fd := ⟨_, _, a, fun_mk l c k⟩
structure C_Track (K : PySem.W.Frag) (C f0 f1 f2 f3 : Addr) (d0 d1 d2 d3 : FuncData) : Prop where
  ns : PySem.W.nsIn K mainGlobals "Track" = some (some (.ref C))
  cl : Cls K C
  fn___init__ : Fun K "__init__" "Track.__init__" (inClass (top 10) 0) f0 d0
  mks : Mk K C f0
  fn_count_one : Fun K "count_one" "Track.count_one" (inClass (top 10) 1) f1 d1
  mt_count_one : Meth K C "count_one" f1
  fn_make_hold : Fun K "make_hold" "Track.make_hold" (inClass (top 10) 2) f2 d2
  mt_make_hold : Meth K C "make_hold" f2
  fn_make_move : Fun K "make_move" "Track.make_move" (inClass (top 10) 3) f3 d3
  mt_make_move : Meth K C "make_move" f3
  n_moves : NoAttr K C "moves"
  n_places : NoAttr K C "places"
  n_counted : NoAttr K C "counted"
theorem C_Track_mk {K : PySem.W.Frag} {C f0 f1 f2 f3 : Addr} {od0 an0 od1 an1 od2 an2 od3 an3 : Option Addr} {sl0 sl1 sl2 sl3 : Array (Option Value)} {oc0 kV0 dc0 pm0 cd0 ct0 oc1 kV1 dc1 pm1 cd1 ct1 oc2 kV2 dc2 pm2 cd2 ct2 oc3 kV3 dc3 pm3 cd3 ct3 : Value}
    (aC : PySem.W.nsIn K mainGlobals "Track" = some (some (.ref C)))
    (a0 : PySem.W.findIn K (.ref C) "__init__" = some (some (.ref f0))) (i0 : PySem.W.isFn K (.ref f0) = true) (l0 : K.lookup f0 = some ⟨oc0, od0, .func (PySem.W.fnOf "__init__" "Track.__init__" (defArgs (inClass (top 10) 0)) (defBody (inClass (top 10) 0)) (defScope (inClass (top 10) 0)) .none kV0 dc0 pm0 an0 cd0 ct0), sl0⟩) (c0 : PySem.W.codeIn K cd0 "Track.__init__" = true) (k0 : PySem.W.keepIn K (.ref f0) = true)
    (a1 : PySem.W.findIn K (.ref C) "count_one" = some (some (.ref f1))) (i1 : PySem.W.isFn K (.ref f1) = true) (l1 : K.lookup f1 = some ⟨oc1, od1, .func (PySem.W.fnOf "count_one" "Track.count_one" (defArgs (inClass (top 10) 1)) (defBody (inClass (top 10) 1)) (defScope (inClass (top 10) 1)) .none kV1 dc1 pm1 an1 cd1 ct1), sl1⟩) (c1 : PySem.W.codeIn K cd1 "Track.count_one" = true) (k1 : PySem.W.keepIn K (.ref f1) = true)
    (a2 : PySem.W.findIn K (.ref C) "make_hold" = some (some (.ref f2))) (i2 : PySem.W.isFn K (.ref f2) = true) (l2 : K.lookup f2 = some ⟨oc2, od2, .func (PySem.W.fnOf "make_hold" "Track.make_hold" (defArgs (inClass (top 10) 2)) (defBody (inClass (top 10) 2)) (defScope (inClass (top 10) 2)) .none kV2 dc2 pm2 an2 cd2 ct2), sl2⟩) (c2 : PySem.W.codeIn K cd2 "Track.make_hold" = true) (k2 : PySem.W.keepIn K (.ref f2) = true)
    (a3 : PySem.W.findIn K (.ref C) "make_move" = some (some (.ref f3))) (i3 : PySem.W.isFn K (.ref f3) = true) (l3 : K.lookup f3 = some ⟨oc3, od3, .func (PySem.W.fnOf "make_move" "Track.make_move" (defArgs (inClass (top 10) 3)) (defBody (inClass (top 10) 3)) (defScope (inClass (top 10) 3)) .none kV3 dc3 pm3 an3 cd3 ct3), sl3⟩) (c3 : PySem.W.codeIn K cd3 "Track.make_move" = true) (k3 : PySem.W.keepIn K (.ref f3) = true)
    (pg : PySem.W.plainGet K C Str.empty = true) (hd : PySem.W.hasDictIn K C = true) (po : PySem.W.plainOver K C = true) (sa : PySem.W.findIn K (.ref C) "__setattr__" = some (some (.builtin "object.__setattr__"))) (mk : PySem.W.makesIn K C = true) (kc : PySem.W.keepIn K (.ref C) = true) (n0 : PySem.W.findIn K (.ref C) "moves" = some none) (n1 : PySem.W.findIn K (.ref C) "places" = some none) (n2 : PySem.W.findIn K (.ref C) "counted" = some none) :
    ∃ C f0 f1 f2 f3 d0 d1 d2 d3, C_Track K C f0 f1 f2 f3 d0 d1 d2 d3 :=
  ⟨C, f0, f1, f2, f3, _, _, _, _, aC, ⟨pg, hd, po, sa⟩, fun_mk l0 c0 k0, ⟨mk, a0, i0, kc⟩, fun_mk l1 c1 k1, ⟨a1, i1, k1⟩, fun_mk l2 c2 k2, ⟨a2, i2, k2⟩, fun_mk l3 c3 k3, ⟨a3, i3, k3⟩, n0, n1, n2⟩
structure C_Walk (K : PySem.W.Frag) (C f0 : Addr) (d0 : FuncData) : Prop where
  ns : PySem.W.nsIn K mainGlobals "Walk" = some (some (.ref C))
  cl : Cls K C
  fn___init__ : Fun K "__init__" "Walk.__init__" (inClass (top 14) 0) f0 d0
  mks : Mk K C f0
  n_body : NoAttr K C "body"
  n_names : NoAttr K C "names"
  n_of_call : NoAttr K C "of_call"
  n_at : NoAttr K C "at"
  n_counter : NoAttr K C "counter"
  n_turn : NoAttr K C "turn"
  n_turns : NoAttr K C "turns"
theorem C_Walk_mk {K : PySem.W.Frag} {C f0 : Addr} {od0 an0 : Option Addr} {sl0 : Array (Option Value)} {oc0 kV0 dc0 pm0 cd0 ct0 : Value}
    (aC : PySem.W.nsIn K mainGlobals "Walk" = some (some (.ref C)))
    (a0 : PySem.W.findIn K (.ref C) "__init__" = some (some (.ref f0))) (i0 : PySem.W.isFn K (.ref f0) = true) (l0 : K.lookup f0 = some ⟨oc0, od0, .func (PySem.W.fnOf "__init__" "Walk.__init__" (defArgs (inClass (top 14) 0)) (defBody (inClass (top 14) 0)) (defScope (inClass (top 14) 0)) .none kV0 dc0 pm0 an0 cd0 ct0), sl0⟩) (c0 : PySem.W.codeIn K cd0 "Walk.__init__" = true) (k0 : PySem.W.keepIn K (.ref f0) = true)
    (pg : PySem.W.plainGet K C Str.empty = true) (hd : PySem.W.hasDictIn K C = true) (po : PySem.W.plainOver K C = true) (sa : PySem.W.findIn K (.ref C) "__setattr__" = some (some (.builtin "object.__setattr__"))) (mk : PySem.W.makesIn K C = true) (kc : PySem.W.keepIn K (.ref C) = true) (n0 : PySem.W.findIn K (.ref C) "body" = some none) (n1 : PySem.W.findIn K (.ref C) "names" = some none) (n2 : PySem.W.findIn K (.ref C) "of_call" = some none) (n3 : PySem.W.findIn K (.ref C) "at" = some none) (n4 : PySem.W.findIn K (.ref C) "counter" = some none) (n5 : PySem.W.findIn K (.ref C) "turn" = some none) (n6 : PySem.W.findIn K (.ref C) "turns" = some none) :
    ∃ C f0 d0, C_Walk K C f0 d0 :=
  ⟨C, f0, _, aC, ⟨pg, hd, po, sa⟩, fun_mk l0 c0 k0, ⟨mk, a0, i0, kc⟩, n0, n1, n2, n3, n4, n5, n6⟩
structure C_Run (K : PySem.W.Frag) (C f0 f1 f2 f3 f4 f5 f6 f7 : Addr) (d0 d1 d2 d3 d4 d5 d6 d7 : FuncData) : Prop where
  ns : PySem.W.nsIn K mainGlobals "Run" = some (some (.ref C))
  cl : Cls K C
  fn___init__ : Fun K "__init__" "Run.__init__" (inClass (top 15) 0) f0 d0
  mks : Mk K C f0
  fn_go : Fun K "go" "Run.go" (inClass (top 15) 1) f1 d1
  mt_go : Meth K C "go" f1
  fn_step : Fun K "step" "Run.step" (inClass (top 15) 2) f2 d2
  mt_step : Meth K C "step" f2
  fn_begin_turn : Fun K "begin_turn" "Run.begin_turn" (inClass (top 15) 3) f3 d3
  mt_begin_turn : Meth K C "begin_turn" f3
  fn_do : Fun K "do" "Run.do" (inClass (top 15) 4) f4 d4
  mt_do : Meth K C "do" f4
  fn_do_call : Fun K "do_call" "Run.do_call" (inClass (top 15) 5) f5 d5
  mt_do_call : Meth K C "do_call" f5
  fn_do_times : Fun K "do_times" "Run.do_times" (inClass (top 15) 6) f6 d6
  mt_do_times : Meth K C "do_times" f6
  fn_do_if : Fun K "do_if" "Run.do_if" (inClass (top 15) 7) f7 d7
  mt_do_if : Meth K C "do_if" f7
  n_subs : NoAttr K C "subs"
  n_track : NoAttr K C "track"
  n_walks : NoAttr K C "walks"
theorem C_Run_mk {K : PySem.W.Frag} {C f0 f1 f2 f3 f4 f5 f6 f7 : Addr} {od0 an0 od1 an1 od2 an2 od3 an3 od4 an4 od5 an5 od6 an6 od7 an7 : Option Addr} {sl0 sl1 sl2 sl3 sl4 sl5 sl6 sl7 : Array (Option Value)} {oc0 kV0 dc0 pm0 cd0 ct0 oc1 kV1 dc1 pm1 cd1 ct1 oc2 kV2 dc2 pm2 cd2 ct2 oc3 kV3 dc3 pm3 cd3 ct3 oc4 kV4 dc4 pm4 cd4 ct4 oc5 kV5 dc5 pm5 cd5 ct5 oc6 kV6 dc6 pm6 cd6 ct6 oc7 kV7 dc7 pm7 cd7 ct7 : Value}
    (aC : PySem.W.nsIn K mainGlobals "Run" = some (some (.ref C)))
    (a0 : PySem.W.findIn K (.ref C) "__init__" = some (some (.ref f0))) (i0 : PySem.W.isFn K (.ref f0) = true) (l0 : K.lookup f0 = some ⟨oc0, od0, .func (PySem.W.fnOf "__init__" "Run.__init__" (defArgs (inClass (top 15) 0)) (defBody (inClass (top 15) 0)) (defScope (inClass (top 15) 0)) .none kV0 dc0 pm0 an0 cd0 ct0), sl0⟩) (c0 : PySem.W.codeIn K cd0 "Run.__init__" = true) (k0 : PySem.W.keepIn K (.ref f0) = true)
    (a1 : PySem.W.findIn K (.ref C) "go" = some (some (.ref f1))) (i1 : PySem.W.isFn K (.ref f1) = true) (l1 : K.lookup f1 = some ⟨oc1, od1, .func (PySem.W.fnOf "go" "Run.go" (defArgs (inClass (top 15) 1)) (defBody (inClass (top 15) 1)) (defScope (inClass (top 15) 1)) .none kV1 dc1 pm1 an1 cd1 ct1), sl1⟩) (c1 : PySem.W.codeIn K cd1 "Run.go" = true) (k1 : PySem.W.keepIn K (.ref f1) = true)
    (a2 : PySem.W.findIn K (.ref C) "step" = some (some (.ref f2))) (i2 : PySem.W.isFn K (.ref f2) = true) (l2 : K.lookup f2 = some ⟨oc2, od2, .func (PySem.W.fnOf "step" "Run.step" (defArgs (inClass (top 15) 2)) (defBody (inClass (top 15) 2)) (defScope (inClass (top 15) 2)) .none kV2 dc2 pm2 an2 cd2 ct2), sl2⟩) (c2 : PySem.W.codeIn K cd2 "Run.step" = true) (k2 : PySem.W.keepIn K (.ref f2) = true)
    (a3 : PySem.W.findIn K (.ref C) "begin_turn" = some (some (.ref f3))) (i3 : PySem.W.isFn K (.ref f3) = true) (l3 : K.lookup f3 = some ⟨oc3, od3, .func (PySem.W.fnOf "begin_turn" "Run.begin_turn" (defArgs (inClass (top 15) 3)) (defBody (inClass (top 15) 3)) (defScope (inClass (top 15) 3)) .none kV3 dc3 pm3 an3 cd3 ct3), sl3⟩) (c3 : PySem.W.codeIn K cd3 "Run.begin_turn" = true) (k3 : PySem.W.keepIn K (.ref f3) = true)
    (a4 : PySem.W.findIn K (.ref C) "do" = some (some (.ref f4))) (i4 : PySem.W.isFn K (.ref f4) = true) (l4 : K.lookup f4 = some ⟨oc4, od4, .func (PySem.W.fnOf "do" "Run.do" (defArgs (inClass (top 15) 4)) (defBody (inClass (top 15) 4)) (defScope (inClass (top 15) 4)) .none kV4 dc4 pm4 an4 cd4 ct4), sl4⟩) (c4 : PySem.W.codeIn K cd4 "Run.do" = true) (k4 : PySem.W.keepIn K (.ref f4) = true)
    (a5 : PySem.W.findIn K (.ref C) "do_call" = some (some (.ref f5))) (i5 : PySem.W.isFn K (.ref f5) = true) (l5 : K.lookup f5 = some ⟨oc5, od5, .func (PySem.W.fnOf "do_call" "Run.do_call" (defArgs (inClass (top 15) 5)) (defBody (inClass (top 15) 5)) (defScope (inClass (top 15) 5)) .none kV5 dc5 pm5 an5 cd5 ct5), sl5⟩) (c5 : PySem.W.codeIn K cd5 "Run.do_call" = true) (k5 : PySem.W.keepIn K (.ref f5) = true)
    (a6 : PySem.W.findIn K (.ref C) "do_times" = some (some (.ref f6))) (i6 : PySem.W.isFn K (.ref f6) = true) (l6 : K.lookup f6 = some ⟨oc6, od6, .func (PySem.W.fnOf "do_times" "Run.do_times" (defArgs (inClass (top 15) 6)) (defBody (inClass (top 15) 6)) (defScope (inClass (top 15) 6)) .none kV6 dc6 pm6 an6 cd6 ct6), sl6⟩) (c6 : PySem.W.codeIn K cd6 "Run.do_times" = true) (k6 : PySem.W.keepIn K (.ref f6) = true)
    (a7 : PySem.W.findIn K (.ref C) "do_if" = some (some (.ref f7))) (i7 : PySem.W.isFn K (.ref f7) = true) (l7 : K.lookup f7 = some ⟨oc7, od7, .func (PySem.W.fnOf "do_if" "Run.do_if" (defArgs (inClass (top 15) 7)) (defBody (inClass (top 15) 7)) (defScope (inClass (top 15) 7)) .none kV7 dc7 pm7 an7 cd7 ct7), sl7⟩) (c7 : PySem.W.codeIn K cd7 "Run.do_if" = true) (k7 : PySem.W.keepIn K (.ref f7) = true)
    (pg : PySem.W.plainGet K C Str.empty = true) (hd : PySem.W.hasDictIn K C = true) (po : PySem.W.plainOver K C = true) (sa : PySem.W.findIn K (.ref C) "__setattr__" = some (some (.builtin "object.__setattr__"))) (mk : PySem.W.makesIn K C = true) (kc : PySem.W.keepIn K (.ref C) = true) (n0 : PySem.W.findIn K (.ref C) "subs" = some none) (n1 : PySem.W.findIn K (.ref C) "track" = some none) (n2 : PySem.W.findIn K (.ref C) "walks" = some none) :
    ∃ C f0 f1 f2 f3 f4 f5 f6 f7 d0 d1 d2 d3 d4 d5 d6 d7, C_Run K C f0 f1 f2 f3 f4 f5 f6 f7 d0 d1 d2 d3 d4 d5 d6 d7 :=
  ⟨C, f0, f1, f2, f3, f4, f5, f6, f7, _, _, _, _, _, _, _, _, aC, ⟨pg, hd, po, sa⟩, fun_mk l0 c0 k0, ⟨mk, a0, i0, kc⟩, fun_mk l1 c1 k1, ⟨a1, i1, k1⟩, fun_mk l2 c2 k2, ⟨a2, i2, k2⟩, fun_mk l3 c3 k3, ⟨a3, i3, k3⟩, fun_mk l4 c4 k4, ⟨a4, i4, k4⟩, fun_mk l5 c5 k5, ⟨a5, i5, k5⟩, fun_mk l6 c6 k6, ⟨a6, i6, k6⟩, fun_mk l7 c7 k7, ⟨a7, i7, k7⟩, n0, n1, n2⟩
structure C_Stop (K : PySem.W.Frag) (C f0 : Addr) (d0 : FuncData) : Prop where
  ns : PySem.W.nsIn K mainGlobals "Stop" = some (some (.ref C))
  fn : Fun K "__init__" "Stop.__init__" (inClass (top 5) 0) f0 d0
  obj : ∃ nm q N bs sn sub ab col dd k0 k1 k2 k3 k5, K.lookup C = some (excClassObj nm q C N bs bmE true sn sub ab col dd k0 k1 k2 k3 k5 "Exception.__new__") ∧ PySem.W.nsOkIn K N = true ∧ PySem.W.nsIn K N "__init__" = some (some (.ref f0)) ∧
    PySem.W.nsIn K N "__setattr__" = some none ∧ PySem.W.nsIn K N "__getattribute__" = some none ∧ PySem.W.nsIn K N "__getattr__" = some none ∧ PySem.W.nsIn K N "end" = some none
  ty : PySem.W.typeIn K (.ref f0) = some (.type "function")
  cobj : ∃ dd cd sl, K.lookup C = some ⟨.type "type", dd, .cls cd, sl⟩
  exc : PySem.W.mroIn K C (.type "BaseException") = some true
  own : PySem.W.mroIn K C (.ref C) = some true
theorem C_Stop_mk {K : PySem.W.Frag} {C f0 N : Addr} {nm q : Str} {bs : List Value} {sn : List Str} {sub : List Value} {ab : Bool} {col : Option Bool} {dd : Option Addr} {k0 k1 k2 k3 k5 : Option Value} {od an : Option Addr} {sl : Array (Option Value)} {oc kV dc pm cd ct : Value}
    {dd' : Option Addr} {cd' : ClassData} {sl' : Array (Option Value)} {nc : Value} {ndd : Option Addr} {nes : Array DictEntry} {nep : Nat} {nsl : Array (Option Value)}
    (aC : PySem.W.nsIn K mainGlobals "Stop" = some (some (.ref C)))
    (o1 : K.lookup C = some (excClassObj nm q C N bs bmE true sn sub ab col dd k0 k1 k2 k3 k5 "Exception.__new__")) (o2 : K.lookup N = some ⟨nc, ndd, .dict nes nep, nsl⟩) (o3 : (nes.toList.all fun e => match e.key with | .str _ _ => true | _ => false) = true) (a0 : PySem.W.nsIn K N "__init__" = some (some (.ref f0)))
    (n1 : PySem.W.nsIn K N "__setattr__" = some none) (n2 : PySem.W.nsIn K N "__getattribute__" = some none) (n3 : PySem.W.nsIn K N "__getattr__" = some none) (n4 : PySem.W.nsIn K N "end" = some none)
    (l0 : K.lookup f0 = some ⟨oc, od, .func (PySem.W.fnOf "__init__" "Stop.__init__" (defArgs (inClass (top 5) 0)) (defBody (inClass (top 5) 0)) (defScope (inClass (top 5) 0)) .none kV dc pm an cd ct), sl⟩) (c0 : PySem.W.codeIn K cd "Stop.__init__" = true) (k : PySem.W.keepIn K (.ref f0) = true)
    (ty : PySem.W.typeIn K (.ref f0) = some (.type "function")) (co : K.lookup C = some ⟨.type "type", dd', .cls cd', sl'⟩) (ex : PySem.W.mroIn K C (.type "BaseException") = some true) (ow : PySem.W.mroIn K C (.ref C) = some true) : ∃ C f0 d0, C_Stop K C f0 d0 :=
  ⟨C, f0, _, aC, fun_mk l0 c0 k, ⟨nm, q, N, bs, sn, sub, ab, col, dd, k0, k1, k2, k3, k5, o1, (by unfold PySem.W.nsOkIn; rw [o2]; dsimp only; rw [← Array.all_toList]; exact o3), a0, n1, n2, n3, n4⟩, ty, ⟨dd', cd', sl', co⟩, ex, ow⟩
theorem int_mk {K : PySem.W.Frag} {x : Str} {i : Int} {t : Tok} (a : PySem.W.nsIn K mainGlobals x = some (some (.int i t))) : ∃ t, PySem.W.nsIn K mainGlobals x = some (some (.int i t)) := ⟨t, a⟩
theorem look_end : typeLookup (.type "Exception") "end" = pure none := by rw [typeLookup_type, builtinLookup_eq_fast]; kernel_rfl
end Car

set_option maxHeartbeats 4000000
namespace Car
open PySem L2
structure BegD (P : Program) (w : World) (K : PySem.W.Frag) (a : Addr) : Prop where
  ns : PySem.W.nsIn K mainGlobals "BEGINNING" = some (some (.ref a))
  dk : DkK P w K a (envD begN)
theorem beg_mk {P : Program} {w : World} {K : PySem.W.Frag} {a : Addr} {h1 h2 h3 : Int} {t1 t2 t3 u1 u2 u3 : Tok} {ep : Nat} (n : PySem.W.nsIn K mainGlobals "BEGINNING" = some (some (.ref a)))
    (l : K.lookup a = some ⟨.type "dict", none, .dict #[⟨h1, .str "x" t1, .int 0 u1⟩, ⟨h2, .str "y" t2, .int 0 u2⟩, ⟨h3, .str "z" t3, .int 1000 u3⟩] ep, #[]⟩) (e1 : h1 = hashStr w "x") (e2 : h2 = hashStr w "y") (e3 : h3 = hashStr w "z") (hs : (a == sysModules) = false) : ∃ a, BegD P w K a := by
  subst e1 e2 e3
  refine ⟨a, n, hs, (show 3 ≤ sizeLine by decide), [((Sum.inr "x" : Key), .int 0 u1), (Sum.inr "y", .int 0 u2), (Sum.inr "z", .int 1000 u3)], .cons ⟨rfl, _, rfl⟩ (.cons ⟨rfl, _, rfl⟩ (.cons ⟨rfl, _, rfl⟩ .nil)), fun h X => ?_⟩
  refine ⟨_, #[⟨hashStr w "x", .str "x" t1, .int 0 u1⟩, ⟨hashStr w "y", .str "y" t2, .int 0 u2⟩, ⟨hashStr w "z", .str "z" t3, .int 1000 u3⟩], ep, X _ _ l, ⟨rfl, rfl, rfl⟩, rfl, fun e he => ?_, .cons (keyIs_str "x" t1) rfl (.cons (keyIs_str "y" t2) rfl (.cons (keyIs_str "z" t3) rfl .nil)), (show List.Nodup [(Sum.inr "x" : Key), Sum.inr "y", Sum.inr "z"] by decide +kernel)⟩
  have he' : e ∈ [(⟨hashStr w "x", .str "x" t1, .int 0 u1⟩ : DictEntry), ⟨hashStr w "y", .str "y" t2, .int 0 u2⟩, ⟨hashStr w "z", .str "z" t3, .int 1000 u3⟩] := by simpa using he
  simp only [List.mem_cons, List.mem_nil_iff, or_false] at he'
  rcases he' with rfl | rfl | rfl
  · exact ⟨Sum.inr "x", keyIs_str "x" t1, rfl⟩
  · exact ⟨Sum.inr "y", keyIs_str "y" t2, rfl⟩
  · exact ⟨Sum.inr "z", keyIs_str "z" t3, rfl⟩
structure NoneT (K : PySem.W.Frag) : Prop where
  len : PySem.W.nsIn K mainGlobals "len" = some none
  max : PySem.W.nsIn K mainGlobals "max" = some none
  min : PySem.W.nsIn K mainGlobals "min" = some none
  range : PySem.W.nsIn K mainGlobals "range" = some none
  isin : PySem.W.nsIn K mainGlobals "isinstance" = some none
  abs : PySem.W.nsIn K mainGlobals "abs" = some none
  tuple : PySem.W.nsIn K mainGlobals "tuple" = some none
  list : PySem.W.nsIn K mainGlobals "list" = some none
  bool : PySem.W.nsIn K mainGlobals "bool" = some none
  dict : PySem.W.nsIn K mainGlobals "dict" = some none
  int : PySem.W.nsIn K mainGlobals "int" = some none
  zip : PySem.W.nsIn K mainGlobals "zip" = some none
  sum : PySem.W.nsIn K mainGlobals "sum" = some none
theorem FnT.fnB {P : Program} {w : World} {K : PySem.W.Frag} {mg : Str → Option Value} {base h : Heap} {x : Str} {st : Stmt} {f : Addr} {fd : FuncData} {k : Nat} {ps : List Str} {sp : Sp} (T : FnT K x st f fd) (X : K.In h) (G : h.Ns mainGlobals mg) (ok : FnOk P w K mg base (CX1 P w) k f fd ps sp) (bi : Binds K fd ps []) : Fn P w K mg base x k ps sp :=
  ⟨f, fd, ok, PySem.W.mg_of X G T.ns, T.fn.kp, bi⟩
theorem all {P : Program} {w : World} {K : PySem.W.Frag} {mg : Str → Option Value} {h : Heap} {fa : Addr} (X : K.In h) (G : h.Ns mainGlobals mg) (hfa : mg "law" = some (.ref fa)) (N : NoneT K)
    (i1 : ∃ t, PySem.W.nsIn K mainGlobals "MOST_NUMBER" = some (some (.int 1000000 t))) (i2 : ∃ t, PySem.W.nsIn K mainGlobals "MOST_COUNTED" = some (some (.int 2000 t))) (i3 : ∃ t, PySem.W.nsIn K mainGlobals "MOST_CALLS" = some (some (.int 10 t))) (B : ∃ a, BegD P w K a)
    (T_is_big : ∃ f fd, FnT K "is_big" (top 6) f fd) (T_bounded : ∃ f fd, FnT K "bounded" (top 7) f fd) (T_joined : ∃ f fd, FnT K "joined" (top 8) f fd) (T_look_at_depth : ∃ f fd, FnT K "look_at_depth" (top 9) f fd) (T_reckoned : ∃ f fd, FnT K "reckoned" (top 12) f fd) (T_named : ∃ f fd, FnT K "named" (top 13) f fd) (T_run_plainly : ∃ f fd, FnT K "run_plainly" (top 16) f fd) (T__law_next : ∃ f fd, FnT K "_law_next" (top 18) f fd) (T__law_expression : ∃ f fd, FnT K "_law_expression" (top 19) f fd) (T__law_lets : ∃ f fd, FnT K "_law_lets" (top 20) f fd) (T__law_opened : ∃ f fd, FnT K "_law_opened" (top 21) f fd) (T__law_statement : ∃ f fd, FnT K "_law_statement" (top 22) f fd) (T__law_body : ∃ f fd, FnT K "_law_body" (top 23) f fd) (T__law_parts : ∃ f fd, FnT K "_law_parts" (top 24) f fd) (T__law_begins : ∃ f fd, FnT K "_law_begins" (top 25) f fd) (T_law : ∃ f fd, FnT K "law" (top 26) f fd)
    (T_Stop : ∃ C f0 d0, C_Stop K C f0 d0) (T_Walk : ∃ C f0 d0, C_Walk K C f0 d0) (T_Run : ∃ C f0 f1 f2 f3 f4 f5 f6 f7 d0 d1 d2 d3 d4 d5 d6 d7, C_Run K C f0 f1 f2 f3 f4 f5 f6 f7 d0 d1 d2 d3 d4 d5 d6 d7) (T_Track : ∃ C f0 f1 f2 f3 d0 d1 d2 d3, C_Track K C f0 f1 f2 f3 d0 d1 d2 d3) :
    ∃ fd : FuncData, (∀ (s : Shared) (v : Value), BindsTo s fd ⟨[v], []⟩ [("script", v)]) ∧ ∀ base : Heap, K.In base → base.Ns mainGlobals mg → FnOk P w K mg base (CX1 P w) 14 fa fd ["script"] (spLaw K) := by
  obtain ⟨t1, i1⟩ := i1
  obtain ⟨t2, i2⟩ := i2
  obtain ⟨t3, i3⟩ := i3
  obtain ⟨ab, B⟩ := B
  obtain ⟨f_is_big, d_is_big, T_is_big⟩ := T_is_big
  obtain ⟨f_bounded, d_bounded, T_bounded⟩ := T_bounded
  obtain ⟨f_joined, d_joined, T_joined⟩ := T_joined
  obtain ⟨f_look_at_depth, d_look_at_depth, T_look_at_depth⟩ := T_look_at_depth
  obtain ⟨f_reckoned, d_reckoned, T_reckoned⟩ := T_reckoned
  obtain ⟨f_named, d_named, T_named⟩ := T_named
  obtain ⟨f_run_plainly, d_run_plainly, T_run_plainly⟩ := T_run_plainly
  obtain ⟨f__law_next, d__law_next, T__law_next⟩ := T__law_next
  obtain ⟨f__law_expression, d__law_expression, T__law_expression⟩ := T__law_expression
  obtain ⟨f__law_lets, d__law_lets, T__law_lets⟩ := T__law_lets
  obtain ⟨f__law_opened, d__law_opened, T__law_opened⟩ := T__law_opened
  obtain ⟨f__law_statement, d__law_statement, T__law_statement⟩ := T__law_statement
  obtain ⟨f__law_body, d__law_body, T__law_body⟩ := T__law_body
  obtain ⟨f__law_parts, d__law_parts, T__law_parts⟩ := T__law_parts
  obtain ⟨f__law_begins, d__law_begins, T__law_begins⟩ := T__law_begins
  obtain ⟨f_law, d_law, T_law⟩ := T_law
  obtain ⟨C, fI, dI, S⟩ := T_Stop
  obtain ⟨CW, w0, e0, W⟩ := T_Walk
  obtain ⟨CR, r0, r1, r2, r3, r4, r5, r6, r7, g0, g1, g2, g3, g4, g5, g6, g7, R⟩ := T_Run
  obtain ⟨CT, a0, a1, a2, a3, b0, b1, b2, b3, TR⟩ := T_Track
  have e := hfa.symm.trans (PySem.W.mg_of X G T_law.ns)
  cases e
  refine ⟨d_law, ?_, fun base _ _ => ?_⟩
  · obtain ⟨oc, od, kV, doc, pm, an, cdv, ct, osl, rfl, lk, hcd⟩ := T_law.fn.ex
    exact fun s v => .of_eq rfl
  have T : RunT K mg CR CW CT := ⟨R.cl, W.cl, TR.cl, R.n_subs, R.n_track, TR.n_moves, TR.n_places, TR.n_counted, R.n_walks, W.n_body, W.n_names, W.n_of_call, W.n_at, W.n_counter, W.n_turn, W.n_turns, PySem.W.mg_none_of X G N.len, PySem.W.mg_none_of X G N.dict, ⟨t2, PySem.W.mg_of X G i2⟩⟩
  have L : LawT mg := ⟨PySem.W.mg_none_of X G N.len, PySem.W.mg_none_of X G N.max, PySem.W.mg_none_of X G N.min, PySem.W.mg_none_of X G N.range, PySem.W.mg_none_of X G N.isin, PySem.W.mg_none_of X G N.abs, PySem.W.mg_none_of X G N.tuple, PySem.W.mg_none_of X G N.list, PySem.W.mg_none_of X G N.bool, PySem.W.mg_none_of X G N.int⟩
  have SC : StopC K mg "Stop" C fI "end" := ⟨PySem.W.mg_of X G S.ns, S.obj, S.ty, look_end⟩
  have bI := S.fn.binds (ps := ["self", "end"]) fun _ _ _ _ _ _ us hl => match us, hl with | [_, _], _ => rfl
  have ST : StopT P w K mg base C fI dI := ⟨SC, ok_stop (k := 0) SC S.fn, bI, ⟨t1, PySem.W.mg_of X G i1⟩⟩
  have CC : CatchC K mg "Stop" C := ⟨PySem.W.mg_of X G S.ns, S.cobj, S.exc⟩
  have FI := T_is_big.fnB (P := P) (w := w) (base := base) X G (ok_isBig ⟨t1, PySem.W.mg_of X G i1⟩ T_is_big.fn) (T_is_big.fn.binds fun _ _ _ _ _ _ us hl => match us, hl with | [_], _ => rfl)
  have FB := T_bounded.fnB (P := P) (w := w) (base := base) X G (ok_bounded ST FI T_bounded.fn) (T_bounded.fn.binds fun _ _ _ _ _ _ us hl => match us, hl with | [_], _ => rfl)
  have FN := T_named.fnB (P := P) (w := w) (base := base) X G (ok_named ST T_named.fn) (T_named.fn.binds fun _ _ _ _ _ _ us hl => match us, hl with | [_, _], _ => rfl)
  have FJ := T_joined.fnB (P := P) (w := w) (base := base) X G (ok_joined T_joined.fn) (T_joined.fn.binds fun _ _ _ _ _ _ us hl => match us, hl with | [_, _, _], _ => rfl)
  have FDp := T_look_at_depth.fnB (P := P) (w := w) (base := base) X G (ok_depth ST ⟨t3, PySem.W.mg_of X G i3⟩ T_look_at_depth.fn) (T_look_at_depth.fn.binds fun _ _ _ _ _ _ us hl => match us, hl with | [_], _ => rfl)
  have MW : Mc P w K mg base "Walk" CW 1 ["self", "body", "names", "of_call"] (spWalk CW) := ⟨w0, e0, ok_walk T W.fn___init__, W.mks, PySem.W.mg_of X G W.ns, (W.fn___init__.binds fun _ _ _ _ _ _ us hl => match us, hl with | [_, _, _, _], _ => rfl)⟩
  have MTr : Mc P w K mg base "Track" CT 1 ["self"] (spTrackI CT) := ⟨a0, b0, ok_trackI T ⟨ab, PySem.W.mg_of X G B.ns, B.dk⟩ TR.fn___init__, TR.mks, PySem.W.mg_of X G TR.ns, (TR.fn___init__.binds fun _ _ _ _ _ _ us hl => match us, hl with | [_], _ => rfl)⟩
  have FR2 := ok_reck (base := base) ST FB FN FJ (PySem.W.mg_of X G T_reckoned.ns) T_reckoned.fn.kp (T_reckoned.fn.binds fun _ _ _ _ _ _ us hl => match us, hl with | [_, _], _ => rfl) T_reckoned.fn 2
  have M12 : Mt P w K mg base CT "count_one" 3 ["self"] (spOne 2 K C CR CW CT) := ⟨a1, b1, ok_one T ST TR.fn_count_one, TR.mt_count_one, TR.cl, (TR.fn_count_one.binds fun _ _ _ _ _ _ us hl => match us, hl with | [_], _ => rfl)⟩
  have MH2 : Mt P w K mg base CT "make_hold" 1 ["self", "number"] (spHold 2 K CR CW CT) := ⟨a2, b2, ok_mhold T TR.fn_make_hold, TR.mt_make_hold, TR.cl, (TR.fn_make_hold.binds fun _ _ _ _ _ _ us hl => match us, hl with | [_, _], _ => rfl)⟩
  have MM2 : Mt P w K mg base CT "make_move" 4 ["self", "kind", "axis", "number", "by"] (spMove 2 K C CR CW CT) := ⟨a3, b3, ok_mmove T FB TR.fn_make_move, TR.mt_make_move, TR.cl, (TR.fn_make_move.binds fun _ _ _ _ _ _ us hl => match us, hl with | [_, _, _, _, _], _ => rfl)⟩
  have MC2 : Mt P w K mg base CR "do_call" 8 ["self", "statement", "names"] (spStm 2 K C CR CW CT isCall) := ⟨r5, g5, ok_call T (PySem.W.mg_none_of X G N.zip) FDp MW FR2 R.fn_do_call, R.mt_do_call, R.cl, (R.fn_do_call.binds fun _ _ _ _ _ _ us hl => match us, hl with | [_, _, _], _ => rfl)⟩
  have MT2 : Mt P w K mg base CR "do_times" 8 ["self", "statement", "names"] (spStm 2 K C CR CW CT isTimes) := ⟨r6, g6, ok_times T MW FR2 R.fn_do_times, R.mt_do_times, R.cl, (R.fn_do_times.binds fun _ _ _ _ _ _ us hl => match us, hl with | [_, _, _], _ => rfl)⟩
  have MI2 : Mt P w K mg base CR "do_if" 8 ["self", "statement", "names"] (spStm 2 K C CR CW CT isIf) := ⟨r7, g7, ok_if T MW FR2 R.fn_do_if, R.mt_do_if, R.cl, (R.fn_do_if.binds fun _ _ _ _ _ _ us hl => match us, hl with | [_, _, _], _ => rfl)⟩
  have MD2 : Mt P w K mg base CR "do" 9 ["self", "statement", "names"] (spDo 2 K C CR CW CT) := ⟨r4, g4, ok_do T M12 FR2 MH2 MM2 MC2 MT2 MI2 R.fn_do, R.mt_do, R.cl, (R.fn_do.binds fun _ _ _ _ _ _ us hl => match us, hl with | [_, _, _], _ => rfl)⟩
  have MB2 : Mt P w K mg base CR "begin_turn" 4 ["self", "walk"] (spTurn 2 K C CR CW CT) := ⟨r3, g3, ok_turn T M12 R.fn_begin_turn, R.mt_begin_turn, R.cl, (R.fn_begin_turn.binds fun _ _ _ _ _ _ us hl => match us, hl with | [_, _], _ => rfl)⟩
  have MS2 : Mt P w K mg base CR "step" 10 ["self", "walk"] (spStep 2 K C CR CW CT) := ⟨r2, g2, ok_step T MD2 MB2 R.fn_step, R.mt_step, R.cl, (R.fn_step.binds fun _ _ _ _ _ _ us hl => match us, hl with | [_, _], _ => rfl)⟩
  have MG2 : Mt P w K mg base CR "go" 11 ["self"] (spGo 2 K C CR CW CT) := ⟨r1, g1, ok_go T MS2 R.fn_go, R.mt_go, R.cl, (R.fn_go.binds fun _ _ _ _ _ _ us hl => match us, hl with | [_], _ => rfl)⟩
  have MR2 : Mc P w K mg base "Run" CR 3 ["self", "program"] (spRunI 2 K CR CW CT) := ⟨r0, g0, ok_runI T MTr MW R.fn___init__, R.mks, PySem.W.mg_of X G R.ns, (R.fn___init__.binds fun _ _ _ _ _ _ us hl => match us, hl with | [_, _], _ => rfl)⟩
  have FP2 := T_run_plainly.fnB (P := P) (w := w) (base := base) X G (ok_run T ST CC S.own MR2 MG2 T_run_plainly.fn) (T_run_plainly.fn.binds fun _ _ _ _ _ _ us hl => match us, hl with | [_], _ => rfl)
  have F1 := draw_of (T__law_next.fnB (P := P) (w := w) (base := base) X G (ok_next L T__law_next.fn) (T__law_next.fn.binds fun _ _ _ _ _ _ us hl => match us, hl with | [_], _ => rfl))
  have F2 := ok_ex (P := P) (w := w) (base := base) F1 (PySem.W.mg_of X G T__law_expression.ns) T__law_expression.fn.kp (T__law_expression.fn.binds fun _ _ _ _ _ _ us hl => match us, hl with | [_, _], _ => rfl) T__law_expression.fn
  have F3 := T__law_lets.fnB (P := P) (w := w) (base := base) X G (ok_lets F1 T__law_lets.fn) (T__law_lets.fn.binds fun _ _ _ _ _ _ us hl => match us, hl with | [_, _], _ => rfl)
  have F4 := ok_three (P := P) (w := w) (base := base) L F1 (F2 1) (F2 2) (PySem.W.mg_of X G T__law_opened.ns) T__law_opened.fn.kp (T__law_opened.fn.binds fun _ _ _ _ _ _ us hl => match us, hl with | [_, _, _, _], _ => rfl) T__law_opened.fn (PySem.W.mg_of X G T__law_statement.ns) T__law_statement.fn.kp (T__law_statement.fn.binds fun _ _ _ _ _ _ us hl => match us, hl with | [_, _, _], _ => rfl) T__law_statement.fn (PySem.W.mg_of X G T__law_body.ns) T__law_body.fn.kp (T__law_body.fn.binds fun _ _ _ _ _ _ us hl => match us, hl with | [_, _, _, _], _ => rfl) T__law_body.fn
  have F5 := T__law_parts.fnB (P := P) (w := w) (base := base) X G (ok_parts L (PySem.W.mg_none_of X G N.sum) F1 F3 (F4 1) (F4 2) T__law_parts.fn) (T__law_parts.fn.binds fun _ _ _ _ _ _ us hl => match us, hl with | [_], _ => rfl)
  have F6 := T__law_begins.fnB (P := P) (w := w) (base := base) X G (ok_begins L T__law_begins.fn) (T__law_begins.fn.binds fun _ _ _ _ _ _ us hl => match us, hl with | [_, _], _ => rfl)
  exact ok_law L F5 F6 FP2 T_law.fn
theorem walk {l : PySem.W.OpenLaw} {q : Program} {loose : List Str} {XP : (Str → Option Value) → Heap → Prop} {YP : World → Heap → Prop} {d : DefRec} {K : Params → PySem.W.Frag} (hn : l.most = some 63) (hdf : d.params.defaults = [])
    (hY : ∀ (w : World) (h : Heap), YP w h → (K w.params).In h)
    (F : ∀ (w : World) (mg : Str → Option Value) (fa : Addr) (h : Heap), (K w.params).In h → h.Ns mainGlobals mg → mg d.name = some (.ref fa) →
      ∃ fd : FuncData, (∀ (s : Shared) (u : Value), BindsTo s fd ⟨[u], []⟩ [("script", u)]) ∧ ∀ base : Heap, (K w.params).In base → base.Ns mainGlobals mg → FnOk l.prog w (K w.params) mg base (CX1 l.prog w) 14 fa fd ["script"] (spLaw (K w.params))) :
    PySem.W.WalkO q loose XP YP l.row.toRowW d [] (fun f vs => PySem.call f vs) :=
  L2.walk_of (n := 63) (k := 14) (x := "script") (CX := fun w => CX1 l.prog w) (sp := fun w => spLaw (K w.params)) hn (by decide) hdf ⟨rfl, by decide, by decide⟩ hY F (fun _ _ a ns hl _ hS => ⟨a, ns, rfl, hS, hl, fun _ => rfl⟩) fun _ _ _ _ _ z => by
    obtain ⟨_, _, _, _, _, _, _, _, _, _, _, _, _, _, _, ff⟩ := z
    exact ff
end Car
open PySem PySem.W PyProof.Rows
set_option maxRecDepth 100000 in
set_option maxHeartbeats 0 in
theorem PySem.Challenge.cw_carvebed_k16_whole_unrolled_holds : PySem.Challenge.rw_carvebed_k16_whole_unrolled.Holds := by
  w_on; o_law; k_head; (case hw => w_witness2)
  k_fill
  refine Car.walk (l := PySem.Challenge.rw_carvebed_k16_whole_unrolled) rfl rfl (fun w h Y => PySem.W.kIn_of Y) ?F
  case F =>
    intro w mg fa h KX G hmg
    have T_is_big : ∃ f fd, Car.FnT (L2.KOf KX) "is_big" (Car.top 6) f fd := by
      dsimp only [L2.KOf]
      refine' Car.fnT_mk ?a ?l ?c ?k
      (case a => k_is); (case l => k_is); (case c => k_is); (case k => k_is)
    have T_bounded : ∃ f fd, Car.FnT (L2.KOf KX) "bounded" (Car.top 7) f fd := by
      dsimp only [L2.KOf]
      refine' Car.fnT_mk ?a ?l ?c ?k
      (case a => k_is); (case l => k_is); (case c => k_is); (case k => k_is)
    have T_joined : ∃ f fd, Car.FnT (L2.KOf KX) "joined" (Car.top 8) f fd := by
      dsimp only [L2.KOf]
      refine' Car.fnT_mk ?a ?l ?c ?k
      (case a => k_is); (case l => k_is); (case c => k_is); (case k => k_is)
    have T_look_at_depth : ∃ f fd, Car.FnT (L2.KOf KX) "look_at_depth" (Car.top 9) f fd := by
      dsimp only [L2.KOf]
      refine' Car.fnT_mk ?a ?l ?c ?k
      (case a => k_is); (case l => k_is); (case c => k_is); (case k => k_is)
    have T_Track : ∃ C f0 f1 f2 f3 d0 d1 d2 d3, Car.C_Track (L2.KOf KX) C f0 f1 f2 f3 d0 d1 d2 d3 := by
      dsimp only [L2.KOf]
      refine' Car.C_Track_mk ?aC ?a0 ?i0 ?l0 ?c0 ?k0 ?a1 ?i1 ?l1 ?c1 ?k1 ?a2 ?i2 ?l2 ?c2 ?k2 ?a3 ?i3 ?l3 ?c3 ?k3 ?pg ?hd ?po ?sa ?mk ?kc ?n0 ?n1 ?n2
      (case aC => k_is); (case a0 => k_is); (case i0 => k_is); (case l0 => k_is); (case c0 => k_is); (case k0 => k_is); (case a1 => k_is); (case i1 => k_is); (case l1 => k_is); (case c1 => k_is); (case k1 => k_is); (case a2 => k_is); (case i2 => k_is); (case l2 => k_is); (case c2 => k_is); (case k2 => k_is); (case a3 => k_is); (case i3 => k_is); (case l3 => k_is); (case c3 => k_is); (case k3 => k_is); (case pg => k_is); (case hd => k_is); (case po => k_is); (case sa => k_is); (case mk => k_is); (case kc => k_is); (case n0 => k_is); (case n1 => k_is); (case n2 => k_is)
    have T_reckoned : ∃ f fd, Car.FnT (L2.KOf KX) "reckoned" (Car.top 12) f fd := by
      dsimp only [L2.KOf]
      refine' Car.fnT_mk ?a ?l ?c ?k
      (case a => k_is); (case l => k_is); (case c => k_is); (case k => k_is)
    have T_named : ∃ f fd, Car.FnT (L2.KOf KX) "named" (Car.top 13) f fd := by
      dsimp only [L2.KOf]
      refine' Car.fnT_mk ?a ?l ?c ?k
      (case a => k_is); (case l => k_is); (case c => k_is); (case k => k_is)
    have T_Walk : ∃ C f0 d0, Car.C_Walk (L2.KOf KX) C f0 d0 := by
      dsimp only [L2.KOf]
      refine' Car.C_Walk_mk ?aC ?a0 ?i0 ?l0 ?c0 ?k0 ?pg ?hd ?po ?sa ?mk ?kc ?n0 ?n1 ?n2 ?n3 ?n4 ?n5 ?n6
      (case aC => k_is); (case a0 => k_is); (case i0 => k_is); (case l0 => k_is); (case c0 => k_is); (case k0 => k_is); (case pg => k_is); (case hd => k_is); (case po => k_is); (case sa => k_is); (case mk => k_is); (case kc => k_is); (case n0 => k_is); (case n1 => k_is); (case n2 => k_is); (case n3 => k_is); (case n4 => k_is); (case n5 => k_is); (case n6 => k_is)
    have T_Run : ∃ C f0 f1 f2 f3 f4 f5 f6 f7 d0 d1 d2 d3 d4 d5 d6 d7, Car.C_Run (L2.KOf KX) C f0 f1 f2 f3 f4 f5 f6 f7 d0 d1 d2 d3 d4 d5 d6 d7 := by
      dsimp only [L2.KOf]
      refine' Car.C_Run_mk ?aC ?a0 ?i0 ?l0 ?c0 ?k0 ?a1 ?i1 ?l1 ?c1 ?k1 ?a2 ?i2 ?l2 ?c2 ?k2 ?a3 ?i3 ?l3 ?c3 ?k3 ?a4 ?i4 ?l4 ?c4 ?k4 ?a5 ?i5 ?l5 ?c5 ?k5 ?a6 ?i6 ?l6 ?c6 ?k6 ?a7 ?i7 ?l7 ?c7 ?k7 ?pg ?hd ?po ?sa ?mk ?kc ?n0 ?n1 ?n2
      (case aC => k_is); (case a0 => k_is); (case i0 => k_is); (case l0 => k_is); (case c0 => k_is); (case k0 => k_is); (case a1 => k_is); (case i1 => k_is); (case l1 => k_is); (case c1 => k_is); (case k1 => k_is); (case a2 => k_is); (case i2 => k_is); (case l2 => k_is); (case c2 => k_is); (case k2 => k_is); (case a3 => k_is); (case i3 => k_is); (case l3 => k_is); (case c3 => k_is); (case k3 => k_is); (case a4 => k_is); (case i4 => k_is); (case l4 => k_is); (case c4 => k_is); (case k4 => k_is); (case a5 => k_is); (case i5 => k_is); (case l5 => k_is); (case c5 => k_is); (case k5 => k_is); (case a6 => k_is); (case i6 => k_is); (case l6 => k_is); (case c6 => k_is); (case k6 => k_is); (case a7 => k_is); (case i7 => k_is); (case l7 => k_is); (case c7 => k_is); (case k7 => k_is); (case pg => k_is); (case hd => k_is); (case po => k_is); (case sa => k_is); (case mk => k_is); (case kc => k_is); (case n0 => k_is); (case n1 => k_is); (case n2 => k_is)
    have T_run_plainly : ∃ f fd, Car.FnT (L2.KOf KX) "run_plainly" (Car.top 16) f fd := by
      dsimp only [L2.KOf]
      refine' Car.fnT_mk ?a ?l ?c ?k
      (case a => k_is); (case l => k_is); (case c => k_is); (case k => k_is)
    have T__law_next : ∃ f fd, Car.FnT (L2.KOf KX) "_law_next" (Car.top 18) f fd := by
      dsimp only [L2.KOf]
      refine' Car.fnT_mk ?a ?l ?c ?k
      (case a => k_is); (case l => k_is); (case c => k_is); (case k => k_is)
    have T__law_expression : ∃ f fd, Car.FnT (L2.KOf KX) "_law_expression" (Car.top 19) f fd := by
      dsimp only [L2.KOf]
      refine' Car.fnT_mk ?a ?l ?c ?k
      (case a => k_is); (case l => k_is); (case c => k_is); (case k => k_is)
    have T__law_lets : ∃ f fd, Car.FnT (L2.KOf KX) "_law_lets" (Car.top 20) f fd := by
      dsimp only [L2.KOf]
      refine' Car.fnT_mk ?a ?l ?c ?k
      (case a => k_is); (case l => k_is); (case c => k_is); (case k => k_is)
    have T__law_opened : ∃ f fd, Car.FnT (L2.KOf KX) "_law_opened" (Car.top 21) f fd := by
      dsimp only [L2.KOf]
      refine' Car.fnT_mk ?a ?l ?c ?k
      (case a => k_is); (case l => k_is); (case c => k_is); (case k => k_is)
    have T__law_statement : ∃ f fd, Car.FnT (L2.KOf KX) "_law_statement" (Car.top 22) f fd := by
      dsimp only [L2.KOf]
      refine' Car.fnT_mk ?a ?l ?c ?k
      (case a => k_is); (case l => k_is); (case c => k_is); (case k => k_is)
    have T__law_body : ∃ f fd, Car.FnT (L2.KOf KX) "_law_body" (Car.top 23) f fd := by
      dsimp only [L2.KOf]
      refine' Car.fnT_mk ?a ?l ?c ?k
      (case a => k_is); (case l => k_is); (case c => k_is); (case k => k_is)
    have T__law_parts : ∃ f fd, Car.FnT (L2.KOf KX) "_law_parts" (Car.top 24) f fd := by
      dsimp only [L2.KOf]
      refine' Car.fnT_mk ?a ?l ?c ?k
      (case a => k_is); (case l => k_is); (case c => k_is); (case k => k_is)
    have T__law_begins : ∃ f fd, Car.FnT (L2.KOf KX) "_law_begins" (Car.top 25) f fd := by
      dsimp only [L2.KOf]
      refine' Car.fnT_mk ?a ?l ?c ?k
      (case a => k_is); (case l => k_is); (case c => k_is); (case k => k_is)
    have T_law : ∃ f fd, Car.FnT (L2.KOf KX) "law" (Car.top 26) f fd := by
      dsimp only [L2.KOf]
      refine' Car.fnT_mk ?a ?l ?c ?k
      (case a => k_is); (case l => k_is); (case c => k_is); (case k => k_is)
    have N : Car.NoneT (L2.KOf KX) := by
      dsimp only [L2.KOf]
      refine' ⟨?n0, ?n1, ?n2, ?n3, ?n4, ?n5, ?n6, ?n7, ?n8, ?n9, ?n10, ?n11, ?n12⟩
      (case n0 => k_is); (case n1 => k_is); (case n2 => k_is); (case n3 => k_is); (case n4 => k_is); (case n5 => k_is); (case n6 => k_is); (case n7 => k_is); (case n8 => k_is); (case n9 => k_is); (case n10 => k_is); (case n11 => k_is); (case n12 => k_is)
    have i1 : ∃ t, PySem.W.nsIn (L2.KOf KX) mainGlobals "MOST_NUMBER" = some (some (.int 1000000 t)) := by
      dsimp only [L2.KOf]
      refine' Car.int_mk ?a
      (case a => k_is)
    have i2 : ∃ t, PySem.W.nsIn (L2.KOf KX) mainGlobals "MOST_COUNTED" = some (some (.int 2000 t)) := by
      dsimp only [L2.KOf]
      refine' Car.int_mk ?a
      (case a => k_is)
    have B : ∃ a, Car.BegD PySem.Challenge.rw_carvebed_k16_whole_unrolled.prog w (L2.KOf KX) a := by
      dsimp only [L2.KOf]
      refine' Car.beg_mk ?n ?l ?e1 ?e2 ?e3 ?hs
      (case n => k_is); (case l => k_is); (case e1 => rfl); (case e2 => rfl); (case e3 => rfl); (case hs => decide)
    have T_Stop : ∃ C f0 d0, Car.C_Stop (L2.KOf KX) C f0 d0 := by
      dsimp only [L2.KOf]
      refine' Car.C_Stop_mk ?aC ?o1 ?o2 ?o3 ?a0 ?n1 ?n2 ?n3 ?n4 ?l0 ?c0 ?k ?ty ?co ?ex ?ow
      (case aC => k_is); (case o1 => k_is); (case o2 => k_is); (case o3 => rfl); (case a0 => k_is); (case n1 => k_is); (case n2 => k_is); (case n3 => k_is); (case n4 => k_is); (case l0 => k_is); (case c0 => k_is); (case k => k_is); (case ty => k_is); (case co => k_is); (case ex => k_is); (case ow => k_is)
    have i3 : ∃ t, PySem.W.nsIn (L2.KOf KX) mainGlobals "MOST_CALLS" = some (some (.int 10 t)) := by
      dsimp only [L2.KOf]
      refine' Car.int_mk ?a
      (case a => k_is)
    exact Car.all KX G hmg N i1 i2 i3 B T_is_big T_bounded T_joined T_look_at_depth T_reckoned T_named T_run_plainly T__law_next T__law_expression T__law_lets T__law_opened T__law_statement T__law_body T__law_parts T__law_begins T_law T_Stop T_Walk T_Run T_Track
#print axioms PySem.Challenge.cw_carvebed_k16_whole_unrolled_holds

