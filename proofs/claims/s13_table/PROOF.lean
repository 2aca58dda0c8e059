import PyProof.Rows.All
import Wide.All
import OpenK.AllK
import Wide.FinOn
import PyProof.EqAt
import PyProof.EqKinds
import PyProof.TupleCall
import KE.BitLaws
import Open.SpecLaws
import KE.OsHead
import KE.OsGo
import PySem.Challenge.RW_exactraws_s13_table
set_option Elab.async false
set_option linter.all false
set_option maxRecDepth 100000
set_option exponentiation.threshold 100000
namespace L2
noncomputable def Sz (n : Nat) (i : Int) : Prop := i.natAbs < 2 ^ n
instance szDec (n : Nat) (i : Int) : Decidable (Sz n i) := inferInstanceAs (Decidable (i.natAbs < 2 ^ n))
theorem Sz.mono {m n : Nat} {i : Int} (h : Sz m i) (l : m ≤ n) : Sz n i := Nat.lt_of_lt_of_le h (Nat.pow_le_pow_right (by decide) l)
noncomputable def dictI : List (Int × Int) → Int → Int
  | [], _ => 0
  | (a, v) :: r, k => if a = k then v else dictI r k
noncomputable abbrev absI (i : Int) : Int := if i < 0 then -i else i
noncomputable abbrev maxI (i j : Int) : Int := if j > i then j else i
noncomputable def bitsI (i : Int) : Int := if i = 0 then 0 else ((i.natAbs.log2 + 1 : Nat) : Int)
theorem not_t {b : Bool} (h : (!b) = true) : b = false := by cases b <;> simp_all
theorem not_f {b : Bool} (h : (!b) = false) : b = true := by cases b <;> simp_all
theorem Sz.lit {n : Nat} {i : Int} (h : i.natAbs < 2 ^ n) : Sz n i := h
theorem Sz.neg {n : Nat} {i : Int} (h : Sz n i) : Sz n (-i) := by unfold Sz at *; rw [Int.natAbs_neg]; exact h
theorem Sz.abs {n : Nat} {i : Int} (h : Sz n i) : Sz n (absI i) := by
  unfold Sz absI at *
  split
  · rw [Int.natAbs_neg]; exact h
  · exact h
theorem Sz.mul {m n : Nat} {i j : Int} (h : Sz m i) (g : Sz n j) : Sz (m + n) (i * j) := by
  unfold Sz at *
  rw [Int.natAbs_mul, Nat.pow_add]
  have h1 : i.natAbs * j.natAbs ≤ i.natAbs * 2 ^ n := Nat.mul_le_mul_left _ (Nat.le_of_lt g)
  have h2 : i.natAbs * 2 ^ n < 2 ^ m * 2 ^ n := Nat.mul_lt_mul_of_pos_right h (Nat.pow_pos (by decide))
  omega
theorem Sz.add {m n : Nat} {i j : Int} (h : Sz m i) (g : Sz n j) : Sz (max m n + 1) (i + j) := by
  have h' : i.natAbs < 2 ^ max m n := Nat.lt_of_lt_of_le h (Nat.pow_le_pow_right (by decide) (Nat.le_max_left _ _))
  have g' : j.natAbs < 2 ^ max m n := Nat.lt_of_lt_of_le g (Nat.pow_le_pow_right (by decide) (Nat.le_max_right _ _))
  unfold Sz
  rw [Nat.pow_succ]
  have := Int.natAbs_add_le i j
  omega
theorem Sz.two {n : Nat} (k : Nat) (h : k < n) : Sz n (2 ^ k) := by
  unfold Sz
  rw [Int.natAbs_pow]
  exact Nat.pow_lt_pow_right (by decide) h
theorem Sz.shl {m : Nat} {i : Int} {k n : Nat} (h : Sz m i) (hk : k ≤ n) : Sz (m + n) (i * 2 ^ k) := by
  unfold Sz at *
  rw [Int.natAbs_mul, Int.natAbs_pow, Nat.pow_add]
  show i.natAbs * 2 ^ k < _
  have h1 : i.natAbs * 2 ^ k ≤ i.natAbs * 2 ^ n := Nat.mul_le_mul_left _ (Nat.pow_le_pow_right (by decide) hk)
  have h2 : i.natAbs * 2 ^ n < 2 ^ m * 2 ^ n := Nat.mul_lt_mul_of_pos_right h (Nat.pow_pos (by decide))
  omega
theorem Sz.of_le {n : Nat} {i j : Int} (h : Sz n j) (l : i.natAbs ≤ j.natAbs) : Sz n i := Nat.lt_of_le_of_lt l h
theorem Sz.log {n : Nat} {i : Int} (h : Sz n i) (h0 : 0 < n) : i.natAbs.log2 < n := by
  by_cases c : i.natAbs = 0
  · rw [c]; exact h0
  · exact (Nat.log2_lt c).mpr h
theorem Sz.bitsI {n : Nat} {i : Int} (h : Sz n i) : 0 ≤ L2.bitsI i ∧ L2.bitsI i ≤ n := by
  unfold L2.bitsI
  split
  · omega
  · rename_i c
    have : i.natAbs.log2 < n := (Nat.log2_lt (by omega)).mpr h
    omega
end L2

set_option Elab.async false
set_option linter.all false
set_option maxRecDepth 100000
namespace L2
open PySem PySem.Spec PyProof.Rows
noncomputable abbrev Key := Sum Int Str
noncomputable def keyIs : Key → Value → Bool
  | .inl k, v => Value.isInt k v
  | .inr x, v => Value.isStrOf x v
noncomputable def keyH (w : World) : Key → Int
  | .inl k => hashInt k
  | .inr x => hashStr w x
theorem keyIs_shape : ∀ {k : Key} {v : Value}, keyIs k v = true → (∃ i t, k = Sum.inl i ∧ v = Value.int i t) ∨ (∃ x t, k = Sum.inr x ∧ v = Value.str x t)
  | .inl i, v, h => by
    obtain ⟨t, e⟩ := Value.isInt_shape (k := i) (v := v) h
    exact .inl ⟨i, t, rfl, e⟩
  | .inr x, v, h => by
    obtain ⟨t, e⟩ := Value.isStrOf_shape (x := x) (v := v) h
    exact .inr ⟨x, t, rfl, e⟩
theorem key_ll (a b : Int) : decide ((Sum.inl a : Key) = Sum.inl b) = (a == b) := by
  by_cases e : a = b
  · subst e; simp
  · have h : ¬ (Sum.inl a : Key) = Sum.inl b := fun q => e (Sum.inl.inj q)
    rw [decide_eq_false h]
    exact (beq_eq_false_iff_ne.mpr e).symm
theorem key_rr (a b : Str) : decide ((Sum.inr a : Key) = Sum.inr b) = decide (a = b) := by
  by_cases e : a = b
  · subst e; simp
  · have h : ¬ (Sum.inr a : Key) = Sum.inr b := fun q => e (Sum.inr.inj q)
    rw [decide_eq_false h, decide_eq_false e]
theorem key_lr (a : Int) (b : Str) : decide ((Sum.inl a : Key) = Sum.inr b) = false := decide_eq_false (fun q => nomatch q)
theorem key_rl (a : Str) (b : Int) : decide ((Sum.inr a : Key) = Sum.inl b) = false := decide_eq_false (fun q => nomatch q)

noncomputable def mixKind (prog : Program) (w : World) : PySem.KeyKind prog w Key where
  is := keyIs
  hash := keyH w
  inj := fun v a b ha hb => by
    rcases keyIs_shape ha with ⟨i, t, rfl, rfl⟩ | ⟨x, t, rfl, rfl⟩
    · rcases keyIs_shape hb with ⟨j, u, rfl, e⟩ | ⟨y, u, rfl, e⟩
      · injection e with e1 _; rw [e1]
      · exact nomatch e
    · rcases keyIs_shape hb with ⟨j, u, rfl, e⟩ | ⟨y, u, rfl, e⟩
      · exact nomatch e
      · injection e with e1 _; rw [e1]
  byValue := fun k v h => by
    rcases keyIs_shape h with ⟨i, t, rfl, rfl⟩ | ⟨x, t, rfl, rfl⟩ <;> rfl
  pyHash := fun hv h => by
    rcases keyIs_shape hv with ⟨i, t, rfl, rfl⟩ | ⟨x, t, rfl, rfl⟩
    · exact wpAny_pyHash_int h
    · exact wpAny_pyHash_str h
  eqBool := fun hu hv h => by
    rcases keyIs_shape hu with ⟨i, t, rfl, rfl⟩ | ⟨x, t, rfl, rfl⟩
    · rcases keyIs_shape hv with ⟨j, u, rfl, rfl⟩ | ⟨y, u, rfl, rfl⟩
      · rw [key_ll] at h; exact wpAny_eqBool_int h
      · rw [key_lr] at h; exact SeqAt.EqAt.int_str i t y u _ _ _ _ h
    · rcases keyIs_shape hv with ⟨j, u, rfl, rfl⟩ | ⟨y, u, rfl, rfl⟩
      · rw [key_rl] at h; exact SeqAt.EqAt.str_int x t j u _ _ _ _ h
      · rw [key_rr] at h; exact wpAny_eqBool_str h
  «strs» := fun k x t v h => by
    rcases keyIs_shape h with ⟨i, u, rfl, e⟩ | ⟨y, u, rfl, e⟩
    · exact nomatch e
    · injection e with e1 _
      subst e1
      cases v <;> rfl

end L2
namespace L2
open PySem PySem.Spec PyProof.Rows
inductive V where
  | non | bl (b : Bool) | int (i : Int) | str (x : Str) | byt (b : Array UInt8) | flt (b : UInt64) | ref (a : Addr) | ty (n : String)
  deriving DecidableEq

noncomputable def RelV : V → Value → Prop
  | .non, u => u = Value.none
  | .bl b, u => u = Value.bool b
  | .int i, u => ∃ t, u = Value.int i t
  | .str x, u => ∃ t, u = Value.str x t
  | .byt b, u => ∃ t, u = Value.bytes b t
  | .flt b, u => ∃ t, u = Value.float b t
  | .ref a, u => u = Value.ref a
  | .ty n, u => u = Value.type n

noncomputable abbrev Vals : List V → List Value → Prop := Paired RelV
theorem Vals.length {xs : List V} {us : List Value} (r : Vals xs us) : xs.length = us.length := Paired.length r
theorem Vals.get : ∀ {xs : List V} {us : List Value} {i : Nat} {x : V}, Vals xs us → xs[i]? = some x → ∃ u, us[i]? = some u ∧ RelV x u
  | _, _, _, _, .nil, e => by simp at e
  | _, _, 0, _, .cons r _, e => by simp at e; subst e; exact ⟨_, rfl, r⟩
  | _, _, i + 1, x, .cons _ t, e => by
    obtain ⟨u, h1, h2⟩ := Vals.get (i := i) (x := x) t (by simpa using e)
    exact ⟨u, by simpa using h1, h2⟩
theorem Vals.set {x : V} {u : Value} (r : RelV x u) : ∀ {xs : List V} {us : List Value} (i : Nat), Vals xs us → Vals (xs.set i x) (us.set i u)
  | _, _, _, .nil => .nil
  | _, _, 0, .cons _ t => .cons r t
  | _, _, i + 1, .cons q t => .cons q (Vals.set r i t)
theorem Vals.append : ∀ {xs ys : List V} {us ws : List Value}, Vals xs us → Vals ys ws → Vals (xs ++ ys) (us ++ ws)
  | _, _, _, _, .nil, s => s
  | _, _, _, _, .cons r t, s => .cons r (Vals.append t s)
theorem Vals.take : ∀ {xs : List V} {us : List Value} (n : Nat), Vals xs us → Vals (xs.take n) (us.take n)
  | _, _, 0, _ => .nil
  | _, _, _ + 1, .nil => .nil
  | _, _, n + 1, .cons r t => .cons r (Vals.take n t)
theorem Vals.drop : ∀ {xs : List V} {us : List Value} (n : Nat), Vals xs us → Vals (xs.drop n) (us.drop n)
  | _, _, 0, r => r
  | _, _, _ + 1, .nil => .nil
  | _, _, n + 1, .cons _ t => Vals.drop n t
noncomputable def RelO : Option V → Option Value → Prop
  | some v, some u => RelV v u
  | none, none => True
  | _, _ => False
noncomputable def KV {κ : Type} : List (κ × V) → List (κ × Value) → Prop := Paired fun (p : κ × V) (q : κ × Value) => p.1 = q.1 ∧ RelV p.2 q.2

noncomputable def kV : Key → V
  | .inl i => .int i
  | .inr x => .str x

inductive HO where
  /-- a list -/
  | lst (xs : List V)
  /-- a tuple (never changes) -/
  | tup (xs : List V)
  /-- a dict whose keys are ints and texts; one whose keys are tuples of ints and texts (the empty one is both) -/
  | dK (kvs : List (Key × V)) | dT (kvs : List (List Key × V))
  /-- a set of ints: its members, its size -/
  | set (S : Int → Bool) (n : Nat)
  /-- an instance of the class at C, its dict at dx, its attributes -/
  | ins (C dx : Addr) (fs : List (Str × V))
  /-- the dict of the instance at x -/
  | own (x : Addr)
  /-- the dict of an exception -/
  | xd (fs : List (Str × V))
  /-- a bound method, f of x -/
  | met (f x : Addr)
  /-- a range object lo, lo + 1, .. below hi -/
  | rng (lo hi : Int)
  /-- a thing that is known to the object (the script; a dict while a loop walks it): read, never written while it is so -/
  | frz (o : Obj) (u : HO)
  /-- a code object's table -/
  | tbl (ps : Array Value)
  /-- any other thing, by what is true of its one object (a def of one's own: SetO a S n := HO.ext fun h => ..) -/
  | ext (φ : Heap → Prop)

noncomputable abbrev Hp := Addr → Option HO
noncomputable def upd (H : Hp) (a : Addr) (o : HO) : Hp := fun b => if b = a then some o else H b
theorem upd_same {H : Hp} {a : Addr} {o : HO} : upd H a o a = some o := by unfold upd; rw [if_pos rfl]
theorem upd_ne {H : Hp} {a b : Addr} {o : HO} (h : b ≠ a) : upd H a o b = H b := by unfold upd; rw [if_neg h]
theorem ne_of_none {H : Hp} {a b : Addr} {o : HO} (h : H a = some o) (h' : H b = none) : a ≠ b := by
  intro e; subst e; rw [h] at h'; cases h'

section
variable (P : Program) (w : World)
noncomputable def ObjOk (H : Hp) (h : Heap) (a : Addr) : HO → Prop
  | .lst xs => xs.length ≤ sizeLine ∧ ∃ (its : List Value) (n : Nat), Vals xs its ∧ h.get? a = some { cls := .type "list", data := .seq its.toArray n }
  | .tup xs => xs.length ≤ sizeLine ∧ ∃ its : List Value, Vals xs its ∧ IsTup h a its.toArray
  | .dK kvs => kvs.length ≤ sizeLine ∧ (a == sysModules) = false ∧ ∃ vs, KV kvs vs ∧ h.DictOf (mixKind P w) a vs
  | .dT kvs => kvs.length ≤ sizeLine ∧ (a == sysModules) = false ∧ ∃ xs : List (List Key × Addr × Value),
      Paired (fun (p : List Key × V) (q : List Key × Addr × Value) => p.1 = q.1 ∧ H q.2.1 = some (.tup (p.1.map kV)) ∧ RelV p.2 q.2.2) kvs xs ∧
      ∃ o es ep, h.get? a = some o ∧ o.ExactDict ∧ o.data = .dict es ep ∧ es.toList = xs.map (entryOfKey (tupleKind (mixKind P w))) ∧ (xs.map (·.1)).Nodup
  | .set S n => h.SetOf (intKind P w) a S n
  | .ins C dx fs => H dx = some (.own a) ∧ fs.length ≤ 1000 ∧ dx ≠ a ∧ h.get? a = some (PySem.W.instObj C dx) ∧
      ∃ mA, h.Ns1 dx mA ∧ (∀ f, RelO (fs.lookup f) (mA f)) ∧ PySem.Within mA (fs.map (·.1))
  | .own _ => ∃ o, h.get? a = some o
  | .xd fs => ∃ mA, h.Ns1 a mA ∧ ∀ f, RelO (fs.lookup f) (mA f)
  | .rng lo hi => ∃ t u v, h.get? a = some { cls := .type "range", data := .fields #[.int lo t, .int hi u, .int 1 v] }
  | .frz o u => h.get? a = some o ∧ ObjOk H h a u
  | .tbl ps => h.get? a = some { cls := .none, data := .fields ps }
  | .met f x => h.get? a = some (PySem.W.methodObj (.ref f) (.ref x))
  | .ext φ => φ h ∧ (∃ o, h.get? a = some o) ∧ ∀ h1 h2 : Heap, φ h1 → (∀ o, h1.get? a = some o → h2.get? a = some o) → φ h2
noncomputable def HOk (H : Hp) (h : Heap) : Prop := ∀ a o, H a = some o → ObjOk P w H h a o
end
section
variable {P : Program} {w : World} {H H' : Hp} {h h' : Heap} {a : Addr} {o : HO}
theorem ObjOk.lt (x : ObjOk P w H h a o) : a < h.objs.size := by
  cases o with
  | lst xs => obtain ⟨_, _, _, _, e⟩ := x; exact Heap.lt_size e
  | tup xs => obtain ⟨_, _, _, p⟩ := x; exact p.lt
  | dK kvs => obtain ⟨_, _, _, _, o, _, _, e, _⟩ := x; exact Heap.lt_size e
  | dT kvs => obtain ⟨_, _, _, _, o, _, _, e, _⟩ := x; exact Heap.lt_size e
  | set S n => obtain ⟨o, _, _, _, e, _⟩ := x; exact Heap.lt_size e
  | ins C dx fs => obtain ⟨_, _, _, e, _⟩ := x; exact Heap.lt_size e
  | own y => obtain ⟨_, e⟩ := x; exact Heap.lt_size e
  | xd fs => obtain ⟨_, ⟨_, _, _, e, _⟩, _⟩ := x; exact Heap.lt_size e
  | rng lo hi => obtain ⟨_, _, _, e⟩ := x; exact Heap.lt_size e
  | frz ob u => obtain ⟨e, _⟩ := x; exact Heap.lt_size e
  | tbl ps => exact Heap.lt_size (show h.get? a = some _ from x)
  | met f y => exact Heap.lt_size (show h.get? a = some _ from x)
  | ext φ => obtain ⟨_, ⟨_, e⟩, _⟩ := x; exact Heap.lt_size e
theorem Paired.mapP {α β : Type} {F G : α → β → Prop} : ∀ {l₁ : List α} {l₂ : List β}, Paired F l₁ l₂ → (∀ a b, F a b → G a b) → Paired G l₁ l₂
  | _, _, .nil, _ => .nil
  | _, _, .cons r t, f => .cons (f _ _ r) (Paired.mapP t f)
theorem ObjOk.stay (x : ObjOk P w H h a o) (k : ∀ b u, (b = a ∨ H b = some (.own a)) → h.get? b = some u → h'.get? b = some u)
    (ho : ∀ b, H b = some (.own a) → H' b = some (.own a)) (ht : ∀ b xs, H b = some (.tup xs) → H' b = some (.tup xs)) : ObjOk P w H' h' a o := by
  induction o with
  | lst xs => obtain ⟨z, its, n, r, e⟩ := x; exact ⟨z, its, n, r, k _ _ (.inl rfl) e⟩
  | tup xs => obtain ⟨z, its, r, ob, e, c⟩ := x; exact ⟨z, its, r, ob, k _ _ (.inl rfl) e, c⟩
  | dK kvs => obtain ⟨z, y, vs, r, ob, es, ep, e, c⟩ := x; exact ⟨z, y, vs, r, ob, es, ep, k _ _ (.inl rfl) e, c⟩
  | dT kvs =>
    obtain ⟨z, y, xs, r, ob, es, ep, e, c⟩ := x
    exact ⟨z, y, xs, Paired.mapP r fun p q z => ⟨z.1, ht _ _ z.2.1, z.2.2⟩, ob, es, ep, k _ _ (.inl rfl) e, c⟩
  | set S n => obtain ⟨ob, es, ep, t, e, c⟩ := x; exact ⟨ob, es, ep, t, k _ _ (.inl rfl) e, c⟩
  | ins C dx fs =>
    obtain ⟨d, z, ne, e, mA, ⟨od, es, ep, e2, c⟩, r⟩ := x
    exact ⟨ho _ d, z, ne, k _ _ (.inl rfl) e, mA, ⟨od, es, ep, k _ _ (.inr d) e2, c⟩, r⟩
  | own y => obtain ⟨ob, e⟩ := x; exact ⟨ob, k _ _ (.inl rfl) e⟩
  | xd fs => obtain ⟨mA, ⟨od, es, ep, e, c⟩, r⟩ := x; exact ⟨mA, ⟨od, es, ep, k _ _ (.inl rfl) e, c⟩, r⟩
  | rng lo hi => obtain ⟨t, u, v, e⟩ := x; exact ⟨t, u, v, k _ _ (.inl rfl) e⟩
  | frz ob u ih => obtain ⟨e, q⟩ := x; exact ⟨k _ _ (.inl rfl) e, ih q⟩
  | tbl ps =>
    have e : h.get? a = some { cls := .none, data := .fields ps } := x
    show h'.get? a = some { cls := .none, data := .fields ps }
    exact k a _ (.inl rfl) e
  | met f y =>
    have e : h.get? a = some (PySem.W.methodObj (.ref f) (.ref y)) := x
    show h'.get? a = some (PySem.W.methodObj (.ref f) (.ref y))
    exact k a _ (.inl rfl) e
  | ext φ => obtain ⟨p, ⟨o, e⟩, st⟩ := x; exact ⟨st _ _ p fun o q => k _ _ (.inl rfl) q, ⟨o, k _ _ (.inl rfl) e⟩, st⟩
theorem HOk.lt (x : HOk P w H h) (e : H a = some o) : a < h.objs.size := (x a o e).lt
theorem HOk.fresh (x : HOk P w H h) (e : h.objs.size ≤ a) : H a = none := by
  cases q : H a with
  | none => rfl
  | some u => exact absurd (Nat.lt_of_lt_of_le (x.lt q) e) (Nat.lt_irrefl _)
theorem HOk.kept (x : HOk P w H h) (k : ∀ b u, h.get? b = some u → h'.get? b = some u) : HOk P w H h' := fun a o e =>
  (x a o e).stay (fun b u _ q => k b u q) (fun _ q => q) fun _ _ q => q
theorem HOk.laid (x : HOk P w H h) (k : ∀ b u, h.get? b = some u → h'.get? b = some u) (hp : h.objs.size ≤ a) (new : ObjOk P w (upd H a o) h' a o) : HOk P w (upd H a o) h' := fun b u e => by
  have hn := x.fresh hp
  by_cases hb : b = a
  · subst hb; rw [upd_same] at e; cases e; exact new
  · rw [upd_ne hb] at e
    exact (x b u e).stay (fun c v _ q => k c v q) (fun c q => by rw [upd_ne (ne_of_none q hn)]; exact q) fun c xs q => by rw [upd_ne (ne_of_none q hn)]; exact q
end
noncomputable def Rd (H : Hp) (a : Addr) (u : HO) : Prop := H a = some u ∨ ∃ o, H a = some (.frz o u)
theorem Rd.of {H : Hp} {a : Addr} {u : HO} (h : H a = some u) : Rd H a u := .inl h
theorem Rd.ok {P : Program} {w : World} {H : Hp} {h : Heap} {a : Addr} {u : HO} (r : Rd H a u) (x : HOk P w H h) : ObjOk P w H h a u := by
  rcases r with r | ⟨o, r⟩
  · exact x a u r
  · obtain ⟨_, q⟩ := x a _ r
    exact q
noncomputable def Mut : Option HO → Prop
  | some (.lst _) => True
  | some (.dK _) => True
  | some (.dT _) => True
  | some (.set _ _) => True
  | some (.ins _ _ _) => True
  | some (.ext _) => True
  | _ => False
section
variable {P : Program} {w : World} {H : Hp} {h h' : Heap} {x e : Addr} {o' : HO}
theorem HOk.write (ok : HOk P w H h) (mu : Mut (H x)) (he : e = x ∨ H e = some (.own x)) (k : ∀ b u, b ≠ e → h.get? b = some u → h'.get? b = some u) (heo : ∃ u, h'.get? e = some u)
    (new : ObjOk P w (upd H x o') h' x o') : HOk P w (upd H x o') h' := fun b u q => by
  have nown : ∀ c y, H c = some (.own y) → c ≠ x := fun c y r z => by subst z; rw [r] at mu; exact mu
  have ntup : ∀ c xs, H c = some (.tup xs) → c ≠ x := fun c xs r z => by subst z; rw [r] at mu; exact mu
  by_cases hb : b = x
  · subst hb; rw [upd_same] at q; cases q; exact new
  · rw [upd_ne hb] at q
    by_cases hbe : b = e
    · have q' : H b = some (.own x) := by
        rcases he with z | z
        · exact absurd (hbe.trans z) hb
        · rw [hbe]; exact z
      rw [q] at q'; cases q'
      obtain ⟨v, hv⟩ := heo
      exact ⟨v, by rw [hbe]; exact hv⟩
    · refine (ok b u q).stay (fun c v hc r => k c v ?_ r) (fun c r => by rw [upd_ne (nown c b r)]; exact r) fun c xs r => by rw [upd_ne (ntup c xs r)]; exact r
      rcases hc with rfl | hc
      · exact hbe
      · rintro rfl
        rcases he with z | z
        · exact nown c b hc z
        · rw [hc] at z; cases z; exact hb rfl
end
structure Un (fs ex : List Addr) (H H' : Hp) (h h' : Heap) : Prop where
  keep : ∀ b o, h.get? b = some o → H b = none → b ∉ fs → b ∉ ex → h'.get? b = some o
  slot : ∀ b o, h.get? b = some o → H b = none → b ∈ fs → b ∉ ex → ∃ sl, h'.get? b = some { o with slots := sl }
  free : ∀ b o, h.get? b = some o → H b = none → b ∉ ex → H' b = none
  there : ∀ b o, h.get? b = some o → b ∉ ex → ∃ o', h'.get? b = some o'
  tups : ∀ b xs, H b = some (.tup xs) → H' b = some (.tup xs)
  frzs : ∀ b o u, H b = some (.frz o u) → H' b = some (.frz o u)
  tbls : ∀ b ps, H b = some (.tbl ps) → ∃ more, H' b = some (.tbl (ps ++ more))
section
variable {fs fs' ex ex' : List Addr} {H H1 H2 : Hp} {h h1 h2 h' : Heap} {a x e : Addr} {o : HO}
theorem Un.any (u : Un fs ex H H1 h h1) {b : Addr} {ob : Obj} (q : h.get? b = some ob) (n : H b = none) (hx : b ∉ ex) : ∃ sl, h1.get? b = some { ob with slots := sl } := by
  by_cases hb : b ∈ fs
  · exact u.slot b ob q n hb hx
  · exact ⟨ob.slots, u.keep b ob q n hb hx⟩
theorem Un.trans (a : Un fs ex H H1 h h1) (b : Un fs ex H1 H2 h1 h2) : Un fs ex H H2 h h2 where
  keep := fun c ob q n hc hx => b.keep c ob (a.keep c ob q n hc hx) (a.free c ob q n hx) hc hx
  slot := fun c ob q n hc hx => by
    obtain ⟨sl, e1⟩ := a.slot c ob q n hc hx
    obtain ⟨sl', e2⟩ := b.slot c _ e1 (a.free c ob q n hx) hc hx
    exact ⟨sl', e2⟩
  free := fun c ob q n hx => by
    obtain ⟨o', e1⟩ := a.there c ob q hx
    exact b.free c o' e1 (a.free c ob q n hx) hx
  there := fun c ob q hx => by
    obtain ⟨o', e1⟩ := a.there c ob q hx
    exact b.there c o' e1 hx
  tups := fun c xs q => b.tups c xs (a.tups c xs q)
  frzs := fun c ob xs q => b.frzs c ob xs (a.frzs c ob xs q)
  tbls := fun c ps q => by
    obtain ⟨m1, e1⟩ := a.tbls c ps q
    obtain ⟨m2, e2⟩ := b.tbls c _ e1
    exact ⟨m1 ++ m2, by rw [e2, Array.append_assoc]⟩
theorem Un.kept (k : ∀ b u, h.get? b = some u → h'.get? b = some u) : Un fs ex H H h h' :=
  ⟨fun b ob q _ _ _ => k b ob q, fun b ob q _ _ _ => ⟨ob.slots, k b ob q⟩, fun _ _ _ n _ => n, fun b ob q _ => ⟨ob, k b ob q⟩, fun _ _ q => q, fun _ _ _ q => q, fun _ ps q => ⟨#[], by rw [q]; simp⟩⟩
theorem Un.refl : Un fs ex H H h h := Un.kept fun _ _ q => q
theorem Un.laid (k : ∀ b u, h.get? b = some u → h'.get? b = some u) (hp : h.objs.size ≤ a) (hn : H a = none) : Un fs ex H (upd H a o) h h' where
  keep := fun b u q _ _ _ => k b u q
  slot := fun b u q _ _ _ => ⟨u.slots, k b u q⟩
  free := fun b u q n _ => by rw [upd_ne (Nat.ne_of_lt (Nat.lt_of_lt_of_le (Heap.lt_size q) hp))]; exact n
  there := fun b u q _ => ⟨u, k b u q⟩
  tups := fun b xs q => by rw [upd_ne (ne_of_none q hn)]; exact q
  frzs := fun b u xs q => by rw [upd_ne (ne_of_none q hn)]; exact q
  tbls := fun b ps q => ⟨#[], by rw [upd_ne (ne_of_none q hn), q]; simp⟩
theorem Un.write (mu : Mut (H x)) (he : e = x ∨ H e = some (.own x)) (k : ∀ b u, b ≠ e → h.get? b = some u → h'.get? b = some u) (heo : ∃ u, h'.get? e = some u) : Un fs ex H (upd H x o) h h' := by
  have hx : ∀ b, H b = none → b ≠ x := fun b n z => by subst z; rw [n] at mu; exact mu
  have hb : ∀ b, H b = none → b ≠ e := fun b n z => by
    subst z
    rcases he with r | r
    · exact hx b n r
    · rw [n] at r; cases r
  have hm : ∀ b u, H b = some u → ¬ Mut (some u) → b ≠ x := fun b u q nm z => by subst z; rw [q] at mu; exact nm mu
  refine ⟨fun b u q n _ _ => k b u (hb b n) q, fun b u q n _ _ => ⟨u.slots, k b u (hb b n) q⟩, fun b u q n _ => by rw [upd_ne (hx b n)]; exact n, fun b u q _ => ?_,
    fun b xs q => by rw [upd_ne (hm b _ q fun z => z)]; exact q, fun b u xs q => by rw [upd_ne (hm b _ q fun z => z)]; exact q, fun b ps q => ⟨#[], by rw [upd_ne (hm b _ q fun z => z), q]; simp⟩⟩
  by_cases hbe : b = e
  · subst hbe; exact heo
  · exact ⟨u, k b u hbe q⟩
theorem Un.mono (u : Un fs ex H H1 h h1) (hs : ∀ b ∈ fs, b ∈ fs') (hx : ∀ b ∈ ex, b ∈ ex') : Un fs' ex' H H1 h h1 :=
  ⟨fun b ob q n hb he => u.keep b ob q n (fun z => hb (hs b z)) fun z => he (hx b z), fun _ _ q n _ he => u.any q n fun z => he (hx _ z), fun b ob q n he => u.free b ob q n fun z => he (hx b z), fun b ob q he => u.there b ob q fun z => he (hx b z), u.tups, u.frzs, u.tbls⟩
end
noncomputable def trk (h : Heap) (H : Hp) : List Addr := (List.range h.objs.size).filter fun a => (H a).isSome
noncomputable def hidT (h : Heap) (H : Hp) : Heap := PySem.W.hideAll h (trk h H)
theorem hidT_size (h : Heap) (H : Hp) : (hidT h H).objs.size = h.objs.size := PySem.W.hideAll_size _ _
theorem hidT_get {h : Heap} {H : Hp} {b : Addr} {o : Obj} (e : h.get? b = some o) (n : H b = none) : (hidT h H).get? b = some o :=
  PySem.W.hideAll_get _ e fun hm => by
    have q : (H b).isSome = true := (List.mem_filter.mp hm).2
    rw [n] at q; simp at q
theorem of_hidT {h : Heap} {H : Hp} {b : Addr} {o : Obj} (e : (hidT h H).get? b = some o) : h.get? b = some o ∧ H b = none := by
  have e' : h.get? b = some o := PySem.W.of_hideAll (trk h H) e
  refine ⟨e', ?_⟩
  cases q : H b with
  | none => rfl
  | some x =>
    have hm : b ∈ trk h H := List.mem_filter.mpr ⟨List.mem_range.mpr (Heap.lt_size e'), by simp [q]⟩
    have z : (hidT h H).get? b = none := PySem.W.hideAll_none (trk h H) hm
    rw [z] at e; cases e

noncomputable def allNews (g h : Heap) (L : Addr) : List (Addr × Obj) := (List.range h.objs.size).filterMap fun a => if a = L ∨ (g.get? a).isSome = true then none else (h.get? a).map fun o => (a, o)
noncomputable def rest (g h : Heap) (L d : Addr) : List (Addr × Obj) := (allNews g h L).filter fun p => decide (p.1 ≠ d)
end L2
namespace L2
open PySem PySem.Spec PyProof.Rows
structure Mod (K : PySem.W.Frag) (mg : Str → Option Value) (base : Heap) : Prop where
  kin : K.In base
  glob : base.Ns mainGlobals mg
  blt : ∃ mb, base.Ns builtinsNs mb ∧ ∀ x : Str, x ≠ "__name__" → mb x = bootBuiltins x
  nolimit : base.NoLimit

structure Cx where
  prog : Program
  w : World
  K : PySem.W.Frag
  mg : Str → Option Value
  base : Heap
  A : Around
  N : List Str
  s_0 : Shared
  H_0 : Hp
  env : Env
  outer : List Env
  stack : List Env
  ex : List Addr
  fn : Str → Bool
  calm : Bool
  pn : List (Addr × Obj)
  xe : Value → Shared → Prop
noncomputable def frs (l : List Env) : List Addr := l.filterMap (·.frame)
noncomputable abbrev Cx.fs (X : Cx) : List Addr := frs X.outer

noncomputable def Vis (sc : Scope) (x : Str) : Prop := sc.names.lookup x = some .local ∨ sc.names.lookup x = some .cell ∨ sc.names.lookup x = some .free
noncomputable def Loc (sc : Scope) (x : Str) : Prop := sc.names.lookup x = some .local ∨ sc.names.lookup x = some .cell
noncomputable def Look (env : Env) (h : Heap) (m : Str → Option Value) (x : Str) (u : Value) : Prop :=
  (env.kindOf x = some .local ∧ m x = some u) ∨ ((env.kindOf x = some .cell ∨ env.kindOf x = some .free) ∧ ∃ c, env.cells.lookup x = some c ∧ h.IsCell c (some u))

structure Cx.Ok (X : Cx) : Prop where
  mod : Mod X.K X.mg X.base
  kind : X.env.scope.kind = .function
  glob : X.env.globals = mainGlobals
  blt : X.env.builtins = builtinsNs
  above : X.s_0.heap.objs.size ≤ X.env.locals
  inj : ∀ x y c, X.env.cells.lookup x = some c → X.env.cells.lookup y = some c → x = y
  has : ∀ x, (X.env.kindOf x = some .cell ∨ X.env.kindOf x = some .free) → ∃ c, X.env.cells.lookup x = some c
  cab : ∀ x c, X.fn x = true → X.env.cells.lookup x = some c → X.s_0.heap.objs.size ≤ c
  hd : X.calm = true → X.A.handled = none
  frames : X.A.frames = some X.stack
  stk : X.stack = X.outer ∨ (X.stack = X.env :: X.outer ∧ X.env.frame = some X.env.locals)
  exf : ∀ b ∈ X.ex, b ≠ X.env.locals ∧ ∀ x c, X.env.cells.lookup x = some c → c ≠ b
  bs : ∀ b o, X.base.get? b = some o → X.s_0.heap.get? b = some o ∧ X.H_0 b = none
  bsz : X.base.objs.size ≤ X.s_0.heap.objs.size
  noex : ∀ b o, X.base.get? b = some o → b ∉ X.ex
  exfs : ∀ b ∈ X.ex, b ∉ X.fs
  funs : X.s_0.heap.FunFrames X.base X.outer
  frf : ∀ b ∈ X.fs, X.H_0 b = none

structure Inv (X : Cx) (pins : List (Addr × Obj)) (σ : List (Option V)) (H : Hp) (s : Shared) : Prop where
  ok : X.Ok
  os : s.os = X.s_0.os
  bare : AllBare s.gens
  base : Un X.fs X.ex X.H_0 H X.s_0.heap s.heap
  loc : ∃ m, s.heap.Ns X.env.locals m ∧ ∀ (i : Nat) (x : Str) (v : V), X.N[i]? = some x → σ[i]? = some (some v) → Vis X.env.scope x → ∃ u, RelV v u ∧ Look X.env s.heap m x u
  cell : ∀ x c, X.env.cells.lookup x = some c → ∃ v, s.heap.IsCell c v
  free : H X.env.locals = none
  freeC : ∀ x c, X.env.cells.lookup x = some c → H c = none
  pin : ∀ p ∈ X.pn ++ pins, s.heap.get? p.1 = some p.2 ∧ H p.1 = none ∧ p.1 ≠ X.env.locals ∧ p.1 ∉ X.fs ∧ ∀ v, p.2.data ≠ .cell v
  hok : HOk X.prog X.w H s.heap
  len : σ.length = X.N.length

section
variable {X : Cx} {pins : List (Addr × Obj)} {σ : List (Option V)} {H H' : Hp} {s : Shared} {h' : Heap}
theorem Cx.Ok.nofr (ok : X.Ok) {b : Addr} {o : Obj} (e : X.base.get? b = some o) : b ∉ X.fs := fun hb => by
  have := (ok.funs.mem hb).1
  rw [e] at this; cases this
theorem Inv.bs (I : Inv X pins σ H s) : ∀ b o, X.base.get? b = some o → s.heap.get? b = some o ∧ H b = none := fun b o e =>
  ⟨I.base.keep b o (I.ok.bs b o e).1 (I.ok.bs b o e).2 (I.ok.nofr e) (I.ok.noex b o e), I.base.free b o (I.ok.bs b o e).1 (I.ok.bs b o e).2 (I.ok.noex b o e)⟩
theorem Inv.bk (I : Inv X pins σ H s) : ∀ b o, X.base.get? b = some o → s.heap.get? b = some o := fun b o e => (I.bs b o e).1
theorem Inv.mod (I : Inv X pins σ H s) : Mod X.K X.mg X.base := I.ok.mod
theorem Inv.kIn (I : Inv X pins σ H s) : X.K.In s.heap := I.ok.mod.kin.keeps I.bk
theorem Inv.nolimit (I : Inv X pins σ H s) : s.heap.NoLimit := I.ok.mod.nolimit.keeps I.bk
theorem Inv.lt (I : Inv X pins σ H s) : X.env.locals < s.heap.objs.size := let ⟨_, hn, _⟩ := I.loc; hn.lt
theorem Inv.sz (I : Inv X pins σ H s) : X.s_0.heap.objs.size ≤ s.heap.objs.size := Nat.le_trans I.ok.above (Nat.le_of_lt I.lt)
theorem Inv.nofs (I : Inv X pins σ H s) {a : Addr} (h : s.heap.objs.size ≤ a) : a ∉ X.fs := fun hb => by
  obtain ⟨_, o, ho, _⟩ := I.ok.funs.mem hb
  exact absurd (Nat.lt_of_lt_of_le (Heap.lt_size ho) (Nat.le_trans I.sz h)) (Nat.lt_irrefl _)
theorem Inv.cne (I : Inv X pins σ H s) : ∀ x c, X.env.cells.lookup x = some c → c ≠ X.env.locals := fun x c e z => by
  obtain ⟨v, o, ho, hd⟩ := I.cell x c e
  obtain ⟨m, ⟨o', es, ep, ho', hd', _⟩, _⟩ := I.loc
  rw [z, ho'] at ho; cases ho; rw [hd'] at hd; cases hd
theorem Inv.funs (I : Inv X pins σ H s) : s.heap.FunFrames X.base X.outer := by
  have all : ∀ (l : List Env), (∀ b ∈ frs l, b ∈ X.fs) → X.s_0.heap.FunFrames X.base l → s.heap.FunFrames X.base l := by
    intro l
    induction l with
    | nil => intro _ _; trivial
    | cons env r ih =>
      intro hs hl
      obtain ⟨hk, ⟨L, o, hf, hn, ho, hd⟩, hr⟩ := hl
      have hL : L ∈ X.fs := hs L (by unfold frs; rw [List.filterMap_cons, hf]; exact List.mem_cons_self)
      obtain ⟨sl, e⟩ := I.base.slot L o ho (I.ok.frf L hL) hL fun z => I.ok.exfs L z hL
      exact ⟨hk, ⟨L, _, hf, hn, e, hd⟩, ih (fun b hb => hs b (by unfold frs; rw [List.filterMap_cons, hf]; exact List.mem_cons_of_mem _ hb)) hr⟩
  exact all X.outer (fun _ hb => hb) I.ok.funs

theorem Inv.stack (I : Inv X pins σ H s) : s.heap.FunFrames X.base X.stack := by
  rcases I.ok.stk with e | ⟨e, hf⟩
  · rw [e]; exact I.funs
  · rw [e]
    obtain ⟨m, hn, _⟩ := I.loc
    refine .cons (by rw [I.ok.kind]; decide) hf hn ?_ I.funs
    exact Heap.get?_none_of_le (Nat.le_trans I.ok.bsz I.ok.above)
theorem Inv.stkSub (I : Inv X pins σ H s) : ∀ b ∈ frs X.stack, b ∈ X.env.locals :: X.fs := fun b hb => by
  rcases I.ok.stk with e | ⟨e, hf⟩
  · rw [e] at hb; exact List.mem_cons_of_mem _ hb
  · rw [e] at hb
    unfold frs at hb
    rw [List.filterMap_cons, hf] at hb
    exact hb
theorem Inv.stkFree (I : Inv X pins σ H s) : ∀ b ∈ frs X.stack, H b = none := fun b hb => by
  rcases List.mem_cons.mp (I.stkSub b hb) with e | hb
  · rw [e]; exact I.free
  · obtain ⟨_, o, ho, _⟩ := I.ok.funs.mem hb
    exact I.base.free b o ho (I.ok.frf b hb) fun z => I.ok.exfs b z hb

theorem Inv.step {g' : Array GenState} {t' : Nat} {d' : Drawn} {ch : List Addr} (I : Inv X pins σ H s)
    (hch : ∀ b ∈ ch, (b ∈ X.ex ∨ X.s_0.heap.objs.size ≤ b) ∧ b ≠ X.env.locals ∧ (∀ x c, X.env.cells.lookup x = some c → c ≠ b) ∧ ∀ p ∈ X.pn ++ pins, p.1 ≠ b)
    (keep : ∀ b o, b ≠ X.env.locals → b ∉ X.fs → b ∉ ch → s.heap.get? b = some o → H b = none → h'.get? b = some o)
    (slot : ∀ b o, b ≠ X.env.locals → b ∈ X.fs → b ∉ ch → s.heap.get? b = some o → H b = none → ∃ sl, h'.get? b = some { o with slots := sl }) (free : ∀ b o, b ∉ ch → s.heap.get? b = some o → H b = none → H' b = none)
    (there : ∀ b o, b ∉ ch → s.heap.get? b = some o → ∃ o', h'.get? b = some o')
    (tups : ∀ b xs, H b = some (.tup xs) → H' b = some (.tup xs)) (frzs : ∀ b o u, H b = some (.frz o u) → H' b = some (.frz o u)) (tbls : ∀ b ps, H b = some (.tbl ps) → ∃ more, H' b = some (.tbl (ps ++ more)))
    (ns : ∀ m, s.heap.Ns X.env.locals m → h'.Ns X.env.locals m) (hok : HOk X.prog X.w H' h') (hg : AllBare g') :
    Inv X pins σ H' { s with heap := h', gens := g', drawn := d', toks := t' } := by
  have neL : ∀ b o, X.s_0.heap.get? b = some o → b ≠ X.env.locals := fun b o e => Nat.ne_of_lt (Nat.lt_of_lt_of_le (Heap.lt_size e) I.ok.above)
  have neC : ∀ b o, X.s_0.heap.get? b = some o → b ∉ X.ex → b ∉ ch := fun b o e hx hb => by
    rcases (hch b hb).1 with z | z
    · exact hx z
    · exact absurd (Nat.lt_of_lt_of_le (Heap.lt_size e) z) (Nat.lt_irrefl _)
  have cellK : ∀ x c, X.env.cells.lookup x = some c → ∀ v, s.heap.IsCell c v → h'.IsCell c v := fun x c e v ⟨o, ho, hd⟩ => by
    have nch : c ∉ ch := fun z => (hch c z).2.2.1 x c e rfl
    by_cases hc : c ∈ X.fs
    · obtain ⟨sl, q⟩ := slot c o (I.cne x c e) hc nch ho (I.freeC x c e)
      exact ⟨_, q, hd⟩
    · exact ⟨o, keep c o (I.cne x c e) hc nch ho (I.freeC x c e), hd⟩
  refine ⟨I.ok, I.os, hg, ⟨fun b o e n hb hx => ?_, fun b o e n hb hx => ?_, fun b o e n hx => ?_, fun b o e hx => ?_, fun b xs e => tups b xs (I.base.tups b xs e), fun b o xs e => frzs b o xs (I.base.frzs b o xs e), fun b ps e => ?_⟩, ?_, fun x c e => ?_, ?_, fun x c e => ?_, fun p hp => ?_, hok, I.len⟩
  · exact keep b o (neL b o e) hb (neC b o e hx) (I.base.keep b o e n hb hx) (I.base.free b o e n hx)
  · obtain ⟨sl, e1⟩ := I.base.slot b o e n hb hx
    obtain ⟨sl', e2⟩ := slot b _ (neL b o e) hb (neC b o e hx) e1 (I.base.free b o e n hx)
    exact ⟨sl', e2⟩
  · obtain ⟨o', e1⟩ := I.base.there b o e hx
    exact free b o' (neC b o e hx) e1 (I.base.free b o e n hx)
  · obtain ⟨o', e1⟩ := I.base.there b o e hx
    exact there b o' (neC b o e hx) e1
  · obtain ⟨m1, e1⟩ := I.base.tbls b ps e
    obtain ⟨m2, e2⟩ := tbls b _ e1
    exact ⟨m1 ++ m2, by rw [e2, Array.append_assoc]⟩
  · obtain ⟨m, hn, hl⟩ := I.loc
    refine ⟨m, ns m hn, fun i x v e1 e2 e3 => ?_⟩
    obtain ⟨u, r, l⟩ := hl i x v e1 e2 e3
    refine ⟨u, r, ?_⟩
    rcases l with l | ⟨k, c, e, z⟩
    · exact .inl l
    · exact .inr ⟨k, c, e, cellK x c e _ z⟩
  · obtain ⟨v, z⟩ := I.cell x c e
    exact ⟨v, cellK x c e v z⟩
  · obtain ⟨m, ⟨o, _, _, ho, _⟩, _⟩ := I.loc
    exact free _ o (fun z => (hch _ z).2.1 rfl) ho I.free
  · obtain ⟨v, o, ho, hd⟩ := I.cell x c e
    exact free c o (fun z => (hch c z).2.2.1 x c e rfl) ho (I.freeC x c e)
  · obtain ⟨e, n, ne, nf, d⟩ := I.pin p hp
    have nch : p.1 ∉ ch := fun z => (hch p.1 z).2.2.2 p hp rfl
    exact ⟨keep p.1 p.2 ne nf nch e n, free p.1 p.2 nch e n, ne, nf, d⟩
theorem Inv.un {t' : Nat} (I : Inv X pins σ H s) (u : Un X.fs [] H H' s.heap h') (hok : HOk X.prog X.w H' h') : Inv X pins σ H' { s with heap := h', toks := t' } := by
  obtain ⟨m, ⟨o, es, ep, ho, r⟩, _⟩ := id I.loc
  obtain ⟨sl, hL⟩ := u.any ho I.free (by simp)
  exact I.step (g' := s.gens) (d' := s.drawn) (ch := []) (fun _ z => nomatch z) (fun b o _ hb _ e n => u.keep b o e n hb (by simp)) (fun b o _ hb _ e n => u.slot b o e n hb (by simp)) (fun b o _ e n => u.free b o e n (by simp)) (fun b o _ e => u.there b o e (by simp)) u.tups u.frzs u.tbls (fun m' hm => by
    obtain ⟨o', es', ep', ho', r'⟩ := hm
    rw [ho] at ho'; cases ho'
    exact ⟨_, es', ep', hL, r'⟩) hok I.bare
theorem Inv.call {g' : Array GenState} {t' : Nat} {d' : Drawn} {ch : List Addr} (I : Inv X pins σ H s) (u : Un (frs X.stack) ch H H' s.heap h') (hok : HOk X.prog X.w H' h') (hg : AllBare g')
    (hch : ∀ b ∈ ch, (b ∈ X.ex ∨ X.s_0.heap.objs.size ≤ b) ∧ b ≠ X.env.locals ∧ (∀ x c, X.env.cells.lookup x = some c → c ≠ b) ∧ ∀ p ∈ X.pn ++ pins, p.1 ≠ b) :
    Inv X pins σ H' { s with heap := h', gens := g', drawn := d', toks := t' } := by
  obtain ⟨m, ⟨o, es, ep, ho, r⟩, _⟩ := id I.loc
  obtain ⟨sl, hL⟩ := u.any ho I.free fun z => (hch _ z).2.1 rfl
  exact I.step (ch := ch) hch (fun b o hL hb hc e n => u.keep b o e n (fun z => (List.mem_cons.mp (I.stkSub b z)).elim hL hb) hc) (fun b o _ _ hc e n => u.any e n hc) (fun b o hc e n => u.free b o e n hc) (fun b o hc e => u.there b o e hc) u.tups u.frzs u.tbls (fun m' hm => by
    obtain ⟨o', es', ep', ho', r'⟩ := hm
    rw [ho] at ho'; cases ho'
    exact ⟨_, es', ep', hL, r'⟩) hok hg
theorem Inv.turned {t' : Nat} {it : Addr} (I : Inv X pins σ H s) (k : ∀ b o, b ≠ it → s.heap.get? b = some o → h'.get? b = some o) (hn : H it = none) (hL : it ≠ X.env.locals)
    (h1 : it ∈ X.ex ∨ X.s_0.heap.objs.size ≤ it) (h2 : ∀ x c, X.env.cells.lookup x = some c → c ≠ it) (h3 : ∀ p ∈ X.pn ++ pins, p.1 ≠ it) : Inv X pins σ H { s with heap := h', toks := t' } := by
  have nit : ∀ b u, H b = some u → b ≠ it := fun b u e z => by rw [z, hn] at e; cases e
  refine I.step (g' := s.gens) (d' := s.drawn) (ch := [it]) (fun b hb => ?_) (fun b o _ _ hc e _ => k b o (fun z => hc (by simp [z])) e) (fun b o _ _ hc e _ => ⟨o.slots, k b o (fun z => hc (by simp [z])) e⟩) (fun _ _ _ _ n => n)
    (fun b o hc e => ⟨o, k b o (fun z => hc (by simp [z])) e⟩) (fun _ _ e => e) (fun _ _ _ e => e) (fun b ps e => ⟨#[], by rw [e]; simp⟩) (fun m hm => ?_) (fun b u e => ?_) I.bare
  · have e : b = it := by simpa using hb
    subst e
    exact ⟨h1, hL, h2, h3⟩
  · obtain ⟨o, es, ep, ho, r⟩ := hm
    exact ⟨o, es, ep, k _ o (Ne.symm hL) ho, r⟩
  · refine (I.hok b u e).stay (fun c v hc q => k c v ?_ q) (fun _ q => q) fun _ _ q => q
    rcases hc with z | z
    · rw [z]; exact nit b u e
    · exact nit c _ z
theorem Inv.tok (I : Inv X pins σ H s) (t : Nat) : Inv X pins σ H { s with toks := t } := I.un (h' := s.heap) (t' := t) Un.refl I.hok
theorem Inv.kept {t' : Nat} (I : Inv X pins σ H s) (k : ∀ b u, s.heap.get? b = some u → h'.get? b = some u) : Inv X pins σ H { s with heap := h', toks := t' } := I.un (Un.kept k) (I.hok.kept k)
theorem Inv.laid {a : Addr} {o : HO} {t' : Nat} (I : Inv X pins σ H s) (k : ∀ b u, s.heap.get? b = some u → h'.get? b = some u) (hp : s.heap.objs.size ≤ a) (new : ObjOk X.prog X.w (upd H a o) h' a o) :
    Inv X pins σ (upd H a o) { s with heap := h', toks := t' } := I.un (Un.laid k hp (I.hok.fresh hp)) (I.hok.laid k hp new)
theorem Inv.write {x e : Addr} {o : HO} {t' : Nat} (I : Inv X pins σ H s) (mu : Mut (H x)) (he : e = x ∨ H e = some (.own x)) (k : ∀ b u, b ≠ e → s.heap.get? b = some u → h'.get? b = some u) (heo : ∃ u, h'.get? e = some u)
    (new : ObjOk X.prog X.w (upd H x o) h' x o) : Inv X pins σ (upd H x o) { s with heap := h', toks := t' } := I.un (Un.write mu he k heo) (I.hok.write mu he k heo new)
theorem Inv.weak {σ' : List (Option V)} (I : Inv X pins σ H s) (hl : σ'.length = σ.length) (w : ∀ (i : Nat) v, σ'[i]? = some (some v) → σ[i]? = some (some v)) : Inv X pins σ' H s :=
  ⟨I.ok, I.os, I.bare, I.base, let ⟨m, hn, hl'⟩ := I.loc; ⟨m, hn, fun i x v e1 e2 e3 => hl' i x v e1 (w i v e2) e3⟩, I.cell, I.free, I.freeC, I.pin, I.hok, hl.trans I.len⟩
theorem Inv.pins_of {pins' : List (Addr × Obj)} (I : Inv X pins σ H s) (h : ∀ p ∈ pins', s.heap.get? p.1 = some p.2 ∧ H p.1 = none ∧ p.1 ≠ X.env.locals ∧ p.1 ∉ X.fs ∧ ∀ v, p.2.data ≠ .cell v) : Inv X pins' σ H s :=
  ⟨I.ok, I.os, I.bare, I.base, I.loc, I.cell, I.free, I.freeC, fun p hp => (List.mem_append.mp hp).elim (fun z => I.pin p (List.mem_append_left _ z)) (h p), I.hok, I.len⟩

theorem nodup_ix {N : List Str} (hN : N.Nodup) {i j : Nat} {x : Str} (a : N[i]? = some x) (b : N[j]? = some x) : i = j := by
  obtain ⟨h1, e1⟩ := List.getElem?_eq_some_iff.mp a
  obtain ⟨h2, e2⟩ := List.getElem?_eq_some_iff.mp b
  exact (List.getElem_inj hN).mp (e1.trans e2.symm)

theorem store_ok2 {M : Model} {A : Around} {E : Value → Shared → Prop} {i : Nat} {x : Str} {v : V} {u : Value} {Q : Unit → Shared → Prop} (I : Inv X pins σ H s) (hN : X.N.Nodup) (hi : X.N[i]? = some x) (hx : Loc X.env.scope x) (r : RelV v u)
    (h : ∀ s', Inv X pins (σ.set i (some v)) H s' → (∃ a, Heap.SameBut a s.heap s'.heap ∧ (a = X.env.locals ∨ X.env.cells.lookup x = some a)) → Q () s') (hf : X.fn x = true ∨ X.env.scope.names.lookup x = some .local := by first | exact .inl rfl | exact .inr rfl | assumption) : wpAny M A (storeName X.env x u) Q E s := by
  obtain ⟨m, hn, hl⟩ := id I.loc
  have hcls : (X.env.scope.kind == .class || (X.env.scope.kind == .module && X.env.locals != X.env.globals)) = false := by rw [I.ok.kind]; rfl
  have hiσ : i < σ.length := by rw [I.len]; exact (List.getElem?_eq_some_iff.mp hi).1
  have cne := I.cne
  have tracked : ∀ {a : Addr} {h' : Heap}, (∃ o, s.heap.get? a = some o ∧ H a = none) → Heap.SameBut a s.heap h' → HOk X.prog X.w H h' := fun {a h'} ha hs b ob e => by
    obtain ⟨_, _, hfree⟩ := ha
    refine (I.hok b ob e).stay (fun c w' hc q => (hs.2 c ?_).trans q) (fun _ q => q) fun _ _ q => q
    rintro rfl
    rcases hc with rfl | hc
    · rw [hfree] at e; cases e
    · rw [hfree] at hc; cases hc
  rcases hx with hk | hk
  · refine wpAny_storeName_local hk hn (fun h' hn' hs => ?_) hcls
    obtain ⟨oL, _, _, hoL, _⟩ := id hn
    refine h _ ⟨I.ok, I.os, I.bare, ⟨fun b o e n hb hx => ?_, fun b o e n hb hx => ?_, I.base.free, fun b o e hx => ?_, I.base.tups, I.base.frzs, I.base.tbls⟩, ⟨_, hn', fun j y v' e1 e2 e3 => ?_⟩, fun y c e => ?_, I.free, I.freeC, fun p hp => ?_, tracked ⟨oL, hoL, I.free⟩ hs, by simpa using I.len⟩ ⟨_, hs, .inl rfl⟩
    · exact (hs.2 b (Nat.ne_of_lt (Nat.lt_of_lt_of_le (Heap.lt_size e) I.ok.above))).trans (I.base.keep b o e n hb hx)
    · obtain ⟨sl, e1⟩ := I.base.slot b o e n hb hx
      exact ⟨sl, (hs.2 b (Nat.ne_of_lt (Nat.lt_of_lt_of_le (Heap.lt_size e) I.ok.above))).trans e1⟩
    · obtain ⟨o', e1⟩ := I.base.there b o e hx
      exact ⟨o', (hs.2 b (Nat.ne_of_lt (Nat.lt_of_lt_of_le (Heap.lt_size e) I.ok.above))).trans e1⟩
    · by_cases hj : j = i
      · subst hj
        rw [hi] at e1; cases e1
        rw [List.getElem?_set_self hiσ] at e2
        cases e2
        exact ⟨u, r, .inl ⟨hk, by simp⟩⟩
      · rw [List.getElem?_set_ne (Ne.symm hj)] at e2
        obtain ⟨u', r', q⟩ := hl j y v' e1 e2 e3
        refine ⟨u', r', ?_⟩
        rcases q with ⟨k, e⟩ | ⟨k, c, e, z⟩
        · refine .inl ⟨k, ?_⟩
          have : y ≠ x := fun e => hj (nodup_ix hN e1 (e ▸ hi))
          simp [this, e]
        · exact .inr ⟨k, c, e, z.sameBut hs (cne y c e)⟩
    · obtain ⟨w', z⟩ := I.cell y c e
      exact ⟨w', z.sameBut hs (cne y c e)⟩
    · obtain ⟨e, n, ne, nf, d⟩ := I.pin p hp
      exact ⟨(hs.2 p.1 ne).trans e, n, ne, nf, d⟩
  · have hfn : X.fn x = true := by
      rcases hf with z | z
      · exact z
      · rw [z] at hk; cases hk
    obtain ⟨c, hc⟩ := I.ok.has x (.inl hk)
    obtain ⟨w', z⟩ := I.cell x c hc
    refine wpAny_storeName_cell I.ok.kind hk hc z (fun h' hc' hs => ?_)
    obtain ⟨oc, hoc, hocd⟩ := id z
    refine h { s with heap := h' } ⟨I.ok, I.os, I.bare, ⟨fun b o e n hb hx => ?_, fun b o e n hb hx => ?_, I.base.free, fun b o e hx => ?_, I.base.tups, I.base.frzs, I.base.tbls⟩, ⟨m, hn.sameBut hs (Ne.symm (cne x c hc)), fun j y v' e1 e2 e3 => ?_⟩, fun y c' e => ?_, I.free, I.freeC, fun p hp => ?_, tracked ⟨oc, hoc, I.freeC x c hc⟩ hs, by simpa using I.len⟩ ⟨c, hs, .inr hc⟩
    · exact (hs.2 b (Nat.ne_of_lt (Nat.lt_of_lt_of_le (Heap.lt_size e) (I.ok.cab x c hfn hc)))).trans (I.base.keep b o e n hb hx)
    · obtain ⟨sl, e1⟩ := I.base.slot b o e n hb hx
      exact ⟨sl, (hs.2 b (Nat.ne_of_lt (Nat.lt_of_lt_of_le (Heap.lt_size e) (I.ok.cab x c hfn hc)))).trans e1⟩
    · obtain ⟨o', e1⟩ := I.base.there b o e hx
      exact ⟨o', (hs.2 b (Nat.ne_of_lt (Nat.lt_of_lt_of_le (Heap.lt_size e) (I.ok.cab x c hfn hc)))).trans e1⟩
    · by_cases hj : j = i
      · subst hj
        rw [hi] at e1; cases e1
        rw [List.getElem?_set_self hiσ] at e2
        cases e2
        exact ⟨u, r, .inr ⟨.inl hk, c, hc, hc'⟩⟩
      · rw [List.getElem?_set_ne (Ne.symm hj)] at e2
        obtain ⟨u', r', q⟩ := hl j y v' e1 e2 e3
        refine ⟨u', r', ?_⟩
        rcases q with q | ⟨k, c', e, z'⟩
        · exact .inl q
        · refine .inr ⟨k, c', e, z'.sameBut hs ?_⟩
          rintro rfl
          exact hj (nodup_ix hN e1 (I.ok.inj _ _ _ e hc ▸ hi))
    · by_cases hcc : c' = c
      · subst hcc; exact ⟨_, hc'⟩
      · obtain ⟨w2, z2⟩ := I.cell y c' e
        exact ⟨w2, z2.sameBut hs hcc⟩
    · obtain ⟨e, n, ne, nf, d⟩ := I.pin p hp
      refine ⟨(hs.2 p.1 ?_).trans e, n, ne, nf, d⟩
      intro q
      rw [q, hoc] at e
      have q' : oc = p.2 := Option.some.inj e
      exact d w' (by rw [← q']; exact hocd)
theorem store_ok {M : Model} {A : Around} {E : Value → Shared → Prop} {i : Nat} {x : Str} {v : V} {u : Value} {Q : Unit → Shared → Prop} (I : Inv X pins σ H s) (hN : X.N.Nodup) (hi : X.N[i]? = some x) (hx : Loc X.env.scope x) (r : RelV v u)
    (h : ∀ s', Inv X pins (σ.set i (some v)) H s' → Q () s') (hf : X.fn x = true ∨ X.env.scope.names.lookup x = some .local := by first | exact .inl rfl | exact .inr rfl | assumption) : wpAny M A (storeName X.env x u) Q E s :=
  store_ok2 I hN hi hx r (fun s' I' _ => h s' I') hf
theorem Inv.call' {s' : Shared} {ch : List Addr} (I : Inv X pins σ H s) (ho : s'.os = s.os) (u : Un (frs X.stack) ch H H' s.heap s'.heap) (hok : HOk X.prog X.w H' s'.heap) (hg : AllBare s'.gens)
    (hch : ∀ b ∈ ch, (b ∈ X.ex ∨ X.s_0.heap.objs.size ≤ b) ∧ b ≠ X.env.locals ∧ (∀ x c, X.env.cells.lookup x = some c → c ≠ b) ∧ ∀ p ∈ X.pn ++ pins, p.1 ≠ b) : Inv X pins σ H' s' := by
  obtain ⟨h', g', d', t', o'⟩ := s'
  have e : o' = s.os := ho
  subst e
  exact I.call (g' := g') (t' := t') (d' := d') u hok hg hch
end
noncomputable abbrev XK := Value → Option Addr → Hp → Prop
noncomputable abbrev St := List (Option V)
noncomputable abbrev VK := V → Hp → Prop
noncomputable abbrev TE := St → Hp → VK → Prop
noncomputable abbrev TT := St → Hp → (Bool → Hp → Prop) → Prop
noncomputable abbrev TA := St → Hp → (List V → Hp → Prop) → Prop
structure Ends where
  nx : St → Hp → Prop
  rt : VK
  bk : St → Hp → Prop := fun _ _ => False
  ct : St → Hp → Prop := fun _ _ => False
noncomputable abbrev TS := Ends → St → Hp → Prop

noncomputable def EP (X : Cx) (pins : List (Addr × Obj)) (σ : St) (Q : VK) (u : Value) (s' : Shared) : Prop := ∃ v H', Inv X pins σ H' s' ∧ RelV v u ∧ Q v H'
noncomputable def TP (X : Cx) (pins : List (Addr × Obj)) (σ : St) (Q : Bool → Hp → Prop) (b : Bool) (s' : Shared) : Prop := ∃ H', Inv X pins σ H' s' ∧ Q b H'
noncomputable def AP (X : Cx) (pins : List (Addr × Obj)) (σ : St) (Q : List V → Hp → Prop) (us : List Value) (s' : Shared) : Prop := ∃ vs H', Inv X pins σ H' s' ∧ Vals vs us ∧ Q vs H'
noncomputable def SP (X : Cx) (pins : List (Addr × Obj)) (D : Ends) (f : Flow) (s' : Shared) : Prop :=
  match f with
  | .next => ∃ σ' H', Inv X pins σ' H' s' ∧ D.nx σ' H'
  | .brk => ∃ σ' H', Inv X pins σ' H' s' ∧ D.bk σ' H'
  | .cont => ∃ σ' H', Inv X pins σ' H' s' ∧ D.ct σ' H'
  | .ret u => ∃ v σ' H', Inv X pins σ' H' s' ∧ RelV v u ∧ D.rt v H'

noncomputable def PE (X : Cx) (e : Expr) (t : TE) : Prop :=
  ∀ (pins : List (Addr × Obj)) (s : Shared) (σ : St) (H : Hp) (Q : VK), Inv X pins σ H s → t σ H Q → wpAny (model X.prog X.w) X.A (eval e X.env) (EP X pins σ Q) X.xe s
noncomputable def PT (X : Cx) (e : Expr) (t : TT) : Prop :=
  ∀ (pins : List (Addr × Obj)) (s : Shared) (σ : St) (H : Hp) (Q : Bool → Hp → Prop), Inv X pins σ H s → t σ H Q → wpAny (model X.prog X.w) X.A (isTrue e X.env (eval e X.env)) (TP X pins σ Q) X.xe s
noncomputable def PW (X : Cx) (e : Expr) (t : TT) : Prop :=
  ∀ (whole : Sem Value) (pins : List (Addr × Obj)) (s : Shared) (σ : St) (H : Hp) (Q : Bool → Hp → Prop), Inv X pins σ H s → t σ H Q → wpAny (model X.prog X.w) X.A (isTrue e X.env whole) (TP X pins σ Q) X.xe s
theorem PW.pt {X : Cx} {e : Expr} {t : TT} (h : PW X e t) : PT X e t := h _
noncomputable def PA (X : Cx) (es : List Expr) (t : TA) : Prop :=
  ∀ (pos : Pos) (pins : List (Addr × Obj)) (s : Shared) (σ : St) (H : Hp) (Q : List V → Hp → Prop), Inv X pins σ H s → t σ H Q → wpAny (model X.prog X.w) X.A (spliced (backTo pos (starEach es X.env))) (AP X pins σ Q) X.xe s
noncomputable def PS (X : Cx) (st : Stmt) (t : TS) : Prop :=
  ∀ (pins : List (Addr × Obj)) (s : Shared) (σ : St) (H : Hp) (D : Ends), Inv X pins σ H s → t D σ H → wpAny (model X.prog X.w) X.A (exec st X.env) (SP X pins D) X.xe s
noncomputable def PSs (X : Cx) (st : List Stmt) (t : TS) : Prop :=
  ∀ (pins : List (Addr × Obj)) (s : Shared) (σ : St) (H : Hp) (D : Ends), Inv X pins σ H s → t D σ H → wpAny (model X.prog X.w) X.A (execs st X.env) (SP X pins D) X.xe s
theorem thn {α : Type} {t : Sem α} {Q Q' : α → Shared → Prop} {M : Model} {A : Around} {E : Value → Shared → Prop} {s : Shared} (h : wpAny M A t Q E s) (hQ : ∀ a s, Q a s → Q' a s) : wpAny M A t Q' E s := wpAny_mono h hQ fun _ _ x => x
end L2
namespace L2
open PySem PySem.Spec PyProof.Rows
section
variable {X : Cx}
noncomputable def tVar (i : Nat) : TE := fun σ H Q => ∃ v, σ[i]? = some (some v) ∧ Q v H
noncomputable def tC (v : V) : TE := fun _ H Q => Q v H
theorem pe_var {i : Nat} {x : Str} {pos : Pos} (hN : X.N[i]? = some x) (hv : Vis X.env.scope x) (hd : (x == ("__debug__" : Str)) = false := by decide) (hcd : (x == ("__classdict__" : Str)) = false := by decide) : PE X (.Name x pos) (tVar i) := by
  intro pins s σ H Q I h
  obtain ⟨v, e, h⟩ := h
  obtain ⟨m, hn, hl⟩ := I.loc
  obtain ⟨u, r, l⟩ := hl i x v hN e hv
  have fin : EP X pins σ Q u s := ⟨v, H, I, r, h⟩
  rcases l with ⟨hk, hm⟩ | ⟨hk, c, hc, hcell⟩
  · exact wpAny_Name (wpAny_loadName_local I.ok.kind hk hn hm fin) hd
  · rcases hk with hk | hk
    · exact wpAny_Name (wpAny_loadName_cell I.ok.kind hk hc hcell fin) hd
    · exact wpAny_Name (wpAny_loadName_free I.ok.kind hk hc hcell fin hcd) hd
theorem pe_int {i j pos} : PE X (.Constant (.int i) j pos) (tC (.int i)) := fun _ _ _ H _ I h => wpAny_Constant_int ⟨.int i, H, I.tok _, ⟨_, rfl⟩, h⟩
theorem pe_bl {b j pos} : PE X (.Constant (.bool b) j pos) (tC (.bl b)) := fun _ _ _ H _ I h => Constant_bool ⟨.bl b, H, I, rfl, h⟩
noncomputable def Gl (X : Cx) (x : Str) : Prop := X.env.kindOf x = some .globalImplicit
theorem ld_glob {E : Value → Shared → Prop} {pins : List (Addr × Obj)} {s : Shared} {σ : St} {H : Hp} {x : Str} {u : Value} {pos : Pos} {Q : Value → Shared → Prop} (I : Inv X pins σ H s) (hg : Gl X x) (hm : X.mg x = some u) (h : Q u s)
    (hd : (x == ("__debug__" : Str)) = false := by decide) : wpAny (model X.prog X.w) X.A (eval (.Name x pos) X.env) Q E s :=
  Calls.Name_function_global I.ok.kind hg (Calls.loadGlobal_global (by rw [I.ok.glob]; exact I.mod.glob.keeps I.bk) hm h) hd
theorem ld_blt {E : Value → Shared → Prop} {pins : List (Addr × Obj)} {s : Shared} {σ : St} {H : Hp} {x : Str} {u : Value} {pos : Pos} {Q : Value → Shared → Prop} (I : Inv X pins σ H s) (hg : Gl X x) (hm : X.mg x = none) (hv : bootBuiltins x = some u) (h : Q u s)
    (hn : x ≠ "__name__" := by decide) (hd : (x == ("__debug__" : Str)) = false := by decide) : wpAny (model X.prog X.w) X.A (eval (.Name x pos) X.env) Q E s := by
  obtain ⟨mb, h1, h2⟩ := I.mod.blt
  exact Calls.Name_function_global I.ok.kind hg (Calls.loadGlobal_builtin (by rw [I.ok.glob]; exact I.mod.glob.keeps I.bk) hm (by rw [I.ok.blt]; exact h1.keeps I.bk) ((h2 x hn).trans hv) h) hd
theorem pe_glob {x : Str} {v : V} {u : Value} {pos : Pos} (hg : Gl X x) (hm : X.mg x = some u) (r : RelV v u) (hd : (x == ("__debug__" : Str)) = false := by decide) : PE X (.Name x pos) (tC v) :=
  fun _ _ _ H _ I h => ld_glob I hg hm ⟨v, H, I, r, h⟩ hd
variable {a b : Expr} {ta tb : TE} {pos : Pos}
noncomputable def tB (t : TE) : TT := fun σ H Q => t σ H fun x H1 => ∃ c, x = .bl c ∧ Q c H1
theorem pt_val {e : Expr} {t : TE} (h : PE X e t) (he : ∀ whole, isTrue e X.env whole = (do let v ← whole; standAt e.pos; holding [v] (truthy v)) := by intro _; rfl) : PT X e (tB t) := by
  intro pins s σ H Q I hw
  refine isTrue_plain (thn (h pins s σ H _ I hw) fun v s1 ⟨x, H1, I1, r1, q1⟩ => ?_) (he _)
  obtain ⟨d, rfl, q⟩ := q1
  cases r1
  exact wpAny_truthy_bool ⟨H1, I1, q⟩

variable {tA tB' : TT} {rest : List Expr}
noncomputable def tAnd (t u : TT) : TT := fun σ H Q => t σ H fun c H1 => if c = true then u σ H1 Q else Q false H1
noncomputable def tOr (t u : TT) : TT := fun σ H Q => t σ H fun c H1 => if c = true then Q true H1 else u σ H1 Q
noncomputable def tNot (t : TT) : TT := fun σ H Q => t σ H fun c H1 => Q (!c) H1
theorem pw_and1 (ha : PT X a tA) : PW X (.BoolOp .And [a] pos) tA := by
  intro wh pins s σ H Q I h
  refine isTrue_and (thn (ha pins s σ H Q I h) fun c s1 e => ?_)
  cases c with
  | true => exact isTrue_and_nil e
  | false => exact e
theorem pw_or1 (ha : PT X a tA) : PW X (.BoolOp .Or [a] pos) tA := by
  intro wh pins s σ H Q I h
  refine isTrue_or (thn (ha pins s σ H Q I h) fun c s1 e => ?_)
  cases c with
  | false => exact isTrue_or_nil e
  | true => exact e
theorem pw_and (ha : PT X a tA) (hb : PW X (.BoolOp .And (b :: rest) pos) tB') : PW X (.BoolOp .And (a :: b :: rest) pos) (tAnd tA tB') := by
  intro wh pins s σ H Q I h
  refine isTrue_and (thn (ha pins s σ H _ I h) fun c s1 ⟨H1, I1, q1⟩ => ?_)
  cases c with
  | true => exact hb wh pins s1 σ H1 Q I1 q1
  | false => exact ⟨H1, I1, q1⟩
theorem pw_or (ha : PT X a tA) (hb : PW X (.BoolOp .Or (b :: rest) pos) tB') : PW X (.BoolOp .Or (a :: b :: rest) pos) (tOr tA tB') := by
  intro wh pins s σ H Q I h
  refine isTrue_or (thn (ha pins s σ H _ I h) fun c s1 ⟨H1, I1, q1⟩ => ?_)
  cases c with
  | true => exact ⟨H1, I1, q1⟩
  | false => exact hb wh pins s1 σ H1 Q I1 q1
theorem pt_not (ha : PT X a tA) : PT X (.UnaryOp .Not a pos) (tNot tA) := by
  intro pins s σ H Q I h
  exact isTrue_not (ha pins s σ H (fun c H1 => Q (!c) H1) I h)
noncomputable def tAndV (ta tb : TE) : TE := fun σ H Q => ta σ H fun x H1 => ∃ c, x = .bl c ∧ if c = true then tb σ H1 Q else Q (.bl false) H1
noncomputable def tOrV (ta tb : TE) : TE := fun σ H Q => ta σ H fun x H1 => ∃ c, x = .bl c ∧ if c = true then Q (.bl true) H1 else tb σ H1 Q
noncomputable def tNotV (ta : TE) : TE := fun σ H Q => ta σ H fun x H1 => ∃ c, x = .bl c ∧ Q (.bl (!c)) H1
theorem pe_one {op} {t : TE} (h : PE X a t) : PE X (.BoolOp op [a] pos) t := fun pins s σ H Q I hw => BoolOp_one (h pins s σ H Q I hw)
theorem pe_and (ha : PE X a ta) (hb : PE X (.BoolOp .And (b :: rest) pos) tb) : PE X (.BoolOp .And (a :: b :: rest) pos) (tAndV ta tb) := by
  intro pins s σ H Q I h
  refine BoolOp_and (thn (ha pins s σ H _ I h) fun v s1 ⟨x, H1, I1, r1, q1⟩ => ?_)
  obtain ⟨c, rfl, q1⟩ := q1
  cases r1
  refine wpAny_truthy_bool ?_
  cases c with
  | true => exact hb pins s1 σ H1 Q I1 q1
  | false => exact ⟨.bl false, H1, I1, rfl, q1⟩
theorem pe_or (ha : PE X a ta) (hb : PE X (.BoolOp .Or (b :: rest) pos) tb) : PE X (.BoolOp .Or (a :: b :: rest) pos) (tOrV ta tb) := by
  intro pins s σ H Q I h
  refine BoolOp_or (thn (ha pins s σ H _ I h) fun v s1 ⟨x, H1, I1, r1, q1⟩ => ?_)
  obtain ⟨c, rfl, q1⟩ := q1
  cases r1
  refine wpAny_truthy_bool ?_
  cases c with
  | false => exact hb pins s1 σ H1 Q I1 q1
  | true => exact ⟨.bl true, H1, I1, rfl, q1⟩
theorem pe_not (ha : PE X a ta) : PE X (.UnaryOp .Not a pos) (tNotV ta) := by
  intro pins s σ H Q I h
  refine UnaryOp_ (thn (ha pins s σ H _ I h) fun v s1 ⟨x, H1, I1, r1, q1⟩ => ?_)
  obtain ⟨c, rfl, q1⟩ := q1
  cases r1
  exact not_of (wpAny_truthy_bool ⟨.bl (!c), H1, I1, rfl, q1⟩)
noncomputable def tIf (t : TT) (ta tb : TE) : TE := fun σ H Q => t σ H fun c H1 => if c = true then ta σ H1 Q else tb σ H1 Q
theorem pe_ifExp {c : Expr} (hc : PT X c tA) (ha : PE X a ta) (hb : PE X b tb) : PE X (.IfExp c a b pos) (tIf tA ta tb) := by
  intro pins s σ H Q I h
  refine wpAny_IfExp (thn (hc pins s σ H _ I h) fun d s1 ⟨H1, I1, q1⟩ => ?_)
  cases d with
  | true => exact ha pins s1 σ H1 Q I1 q1
  | false => exact hb pins s1 σ H1 Q I1 q1
end
end L2
namespace L2
open PySem PySem.Spec PyProof.Rows
noncomputable def SqL (K : PySem.W.Frag) (H : Hp) (a : Addr) (xs : List V) : Prop :=
  Rd H a (.lst xs) ∨
    ∃ (o : Obj) (its : Array Value) (n : Nat), K.lookup a = some o ∧ o.cls = .type "list" ∧ o.dict = none ∧ o.data = .seq its n ∧ its.size ≤ sizeLine ∧ Vals xs its.toList
noncomputable def SqT (K : PySem.W.Frag) (H : Hp) (a : Addr) (xs : List V) : Prop :=
  Rd H a (.tup xs) ∨
    ∃ (o : Obj) (its : Array Value) (n : Nat), K.lookup a = some o ∧ o.cls = .type "tuple" ∧ o.data = .seq its n ∧ its.size ≤ sizeLine ∧ Vals xs its.toList
noncomputable def absV : Value → Option V
  | .none => some .non
  | .bool b => some (.bl b)
  | .int i _ => some (.int i)
  | .str x _ => some (.str x)
  | .bytes b _ => some (.byt b)
  | .float b _ => some (.flt b)
  | .ref a => some (.ref a)
  | .type n => some (.ty n)
  | _ => none
theorem RelV.abs {x : V} {u : Value} (r : RelV x u) : absV u = some x := by
  cases x with
  | non => cases r; rfl
  | bl _ => cases r; rfl
  | int _ => obtain ⟨t, rfl⟩ := r; rfl
  | str _ => obtain ⟨t, rfl⟩ := r; rfl
  | byt _ => obtain ⟨t, rfl⟩ := r; rfl
  | flt _ => obtain ⟨t, rfl⟩ := r; rfl
  | ref _ => cases r; rfl
  | ty _ => cases r; rfl
theorem RelV.inj {x y : V} {u : Value} (r : RelV x u) (q : RelV y u) : x = y := Option.some.inj (r.abs.symm.trans q.abs)
theorem Vals.inj : ∀ {xs ys : List V} {us : List Value}, Vals xs us → Vals ys us → xs = ys
  | _, _, _, .nil, .nil => rfl
  | _, _, _, .cons r t, .cons r' t' => by rw [r.inj r', Vals.inj t t']
section
variable {X : Cx} {pins : List (Addr × Obj)} {σ : St} {H : Hp} {s : Shared} {a : Addr} {xs ys : List V}
theorem SqL.of {K : PySem.W.Frag} (h : H a = some (.lst xs)) : SqL K H a xs := .inl (.inl h)
theorem SqT.of {K : PySem.W.Frag} (h : H a = some (.tup xs)) : SqT K H a xs := .inl (.inl h)
theorem Inv.list (I : Inv X pins σ H s) (h : SqL X.K H a xs) : ∃ its : List Value, Vals xs its ∧ PlainL s.heap a its.toArray ∧ xs.length ≤ sizeLine := by
  rcases h with h | ⟨o, its, n, hk, hc, hd, hs, hz, r⟩
  · obtain ⟨z, its, n, r, e⟩ := h.ok I.hok
    exact ⟨its, r, ⟨_, n, e, rfl, rfl, rfl⟩, z⟩
  · refine ⟨its.toList, r, ⟨o, n, I.kIn a o hk, hc, hd, by simpa using hs⟩, ?_⟩
    have e := r.length
    simp only [Array.length_toList] at e
    omega
theorem Inv.tuple (I : Inv X pins σ H s) (h : SqT X.K H a xs) : ∃ its : List Value, Vals xs its ∧ IsTup s.heap a its.toArray ∧ xs.length ≤ sizeLine := by
  rcases h with h | ⟨o, its, n, hk, hc, hs, hz, r⟩
  · obtain ⟨z, its, r, p⟩ := h.ok I.hok
    exact ⟨its, r, p, z⟩
  · refine ⟨its.toList, r, ⟨o, I.kIn a o hk, hc, n, by simpa using hs⟩, ?_⟩
    have e := r.length
    simp only [Array.length_toList] at e
    omega
theorem Inv.list_inj (I : Inv X pins σ H s) (h : SqL X.K H a xs) (h' : SqL X.K H a ys) : xs = ys := by
  obtain ⟨its, r, ⟨o, n, e, _, _, d⟩, _⟩ := I.list h
  obtain ⟨its', r', ⟨o', n', e', _, _, d'⟩, _⟩ := I.list h'
  rw [e] at e'; cases e'
  rw [d] at d'
  injection d' with d1 _
  have : its = its' := by simpa using congrArg Array.toList d1
  subst this
  exact r.inj r'
end
noncomputable abbrev Cx.wish (X : Cx) (E : Value → Shared → Prop) : Cx := { X with xe := E }
noncomputable abbrev Cx.nox (X : Cx) : Cx := X.wish fun _ _ => False
theorem Cx.Ok.wish {X : Cx} (ok : X.Ok) (E : Value → Shared → Prop) : (X.wish E).Ok :=
  ⟨ok.mod, ok.kind, ok.glob, ok.blt, ok.above, ok.inj, ok.has, ok.cab, ok.hd, ok.frames, ok.stk, ok.exf, ok.bs, ok.bsz, ok.noex, ok.exfs, ok.funs, ok.frf⟩
theorem Cx.Ok.unwish {X : Cx} {E : Value → Shared → Prop} (ok : (X.wish E).Ok) : X.Ok :=
  ⟨ok.mod, ok.kind, ok.glob, ok.blt, ok.above, ok.inj, ok.has, ok.cab, ok.hd, ok.frames, ok.stk, ok.exf, ok.bs, ok.bsz, ok.noex, ok.exfs, ok.funs, ok.frf⟩
section
variable {X : Cx} {pins : List (Addr × Obj)} {σ : St} {H : Hp} {s : Shared} {E : Value → Shared → Prop}
theorem Inv.wish (I : Inv X pins σ H s) (E : Value → Shared → Prop) : Inv (X.wish E) pins σ H s := ⟨I.ok.wish E, I.os, I.bare, I.base, I.loc, I.cell, I.free, I.freeC, I.pin, I.hok, I.len⟩
theorem Inv.unwish (I : Inv (X.wish E) pins σ H s) : Inv X pins σ H s := ⟨I.ok.unwish, I.os, I.bare, I.base, I.loc, I.cell, I.free, I.freeC, I.pin, I.hok, I.len⟩
theorem SP.unwish {D : Ends} {f : Flow} {s' : Shared} (h : SP (X.wish E) pins D f s') : SP X pins D f s' := by
  cases f with
  | next => obtain ⟨σ', H', I, q⟩ := h; exact ⟨σ', H', I.unwish, q⟩
  | brk => obtain ⟨σ', H', I, q⟩ := h; exact ⟨σ', H', I.unwish, q⟩
  | cont => obtain ⟨σ', H', I, q⟩ := h; exact ⟨σ', H', I.unwish, q⟩
  | ret u => obtain ⟨v, σ', H', I, r, q⟩ := h; exact ⟨v, σ', H', I.unwish, r, q⟩
theorem PE.nox {e : Expr} {t : TE} (h : PE X.nox e t) : PE X e t := fun pins s σ H Q I hw =>
  wpAny_mono (h pins s σ H Q (I.wish _) hw) (fun _ _ ⟨v, H', I', r, q⟩ => ⟨v, H', I'.unwish, r, q⟩) fun _ _ z => False.elim z
theorem PT.nox {e : Expr} {t : TT} (h : PT X.nox e t) : PT X e t := fun pins s σ H Q I hw =>
  wpAny_mono (h pins s σ H Q (I.wish _) hw) (fun _ _ ⟨H', I', q⟩ => ⟨H', I'.unwish, q⟩) fun _ _ z => False.elim z
theorem PSs.nox {st : List Stmt} {t : TS} (h : PSs X.nox st t) : PSs X st t := fun pins s σ H D I hw =>
  wpAny_mono (h pins s σ H D (I.wish _) hw) (fun _ _ q => q.unwish) fun _ _ z => False.elim z
end
section
variable {X : Cx} {st : Stmt} {rest : List Stmt} {t u : TS} {e : Expr} {te : TE} {pos : Pos}
noncomputable def tNext : TS := fun D σ H => D.nx σ H
noncomputable def tSeq (t u : TS) : TS := fun D σ H => t { D with nx := u D } σ H
theorem pss_nil : PSs X [] tNext := fun _ _ σ H _ I h => wpAny_execs_nil ⟨σ, H, I, h⟩
theorem pss_cons (h1 : PS X st t) (h2 : PSs X rest u) : PSs X (st :: rest) (tSeq t u) := by
  intro pins s σ H D I h
  refine wpAny_execs_cons (thn (h1 pins s σ H { D with nx := u D } I h) fun f s1 q => ?_)
  cases f with
  | next =>
    obtain ⟨σ', H', I', q⟩ := q
    exact h2 pins s1 σ' H' D I' q
  | ret v => exact q
  | brk => exact q
  | cont => exact q
theorem pss_one (h1 : PS X st t) : PSs X [st] t := by
  intro pins s σ H D I h
  refine wpAny_execs_cons (thn (h1 pins s σ H D I h) fun f s1 q => ?_)
  cases f with
  | next => exact wpAny_execs_nil q
  | ret v => exact q
  | brk => exact q
  | cont => exact q
noncomputable def tRet (te : TE) : TS := fun D σ H => te σ H D.rt
theorem ps_ret (he : PE X e te) : PS X (.Return (some e) pos) (tRet te) := by
  intro pins s σ H D I h
  exact wpAny_Return_some (thn (he pins s σ H _ I h) fun v s1 ⟨x, H1, I1, r1, q1⟩ => ⟨x, σ, H1, I1, r1, q1⟩)
noncomputable def tIfS (c : TT) (t u : TS) : TS := fun D σ H => c σ H fun b H1 => if b = true then t D σ H1 else u D σ H1
theorem ps_if {c : Expr} {a b : List Stmt} {tc : TT} (hc : PT X c tc) (ha : PSs X a t) (hb : PSs X b u) : PS X (.If c a b pos) (tIfS tc t u) := by
  intro pins s σ H D I h
  refine wpAny_If (thn (hc pins s σ H _ I h) fun d s1 ⟨H1, I1, q1⟩ => ?_)
  cases d with
  | true => exact ha pins s1 σ H1 D I1 q1
  | false => exact hb pins s1 σ H1 D I1 q1
end
noncomputable abbrev TG := V → St → Hp → (St → Hp → Prop) → Prop
noncomputable def PG (X : Cx) (target : Expr) (t : TG) : Prop :=
  ∀ (pins : List (Addr × Obj)) (s : Shared) (σ : St) (H : Hp) (v : V) (u : Value) (Q : St → Hp → Prop), Inv X pins σ H s → RelV v u → t v σ H Q →
    wpAny (model X.prog X.w) X.A (assign target X.env u) (fun _ s' => ∃ σ' H', Inv X pins σ' H' s' ∧ Q σ' H') X.xe s
noncomputable abbrev TIp := V → V → Hp → VK → Prop
noncomputable def PIp (X : Cx) (op : Operator) (t : TIp) : Prop :=
  ∀ (pins : List (Addr × Obj)) (s : Shared) (σ : St) (H : Hp) (x y : V) (v u : Value) (Q : VK), Inv X pins σ H s → RelV x v → RelV y u → t x y H Q →
    wpAny (model X.prog X.w) X.A (inplaceOp op v u) (EP X pins σ Q) X.xe s
section
variable {X : Cx} {pos : Pos}
noncomputable def gName (i : Nat) : TG := fun v σ H Q => Q (σ.set i (some v)) H
theorem pg_name {i : Nat} {x : Str} (hN : X.N.Nodup) (hi : X.N[i]? = some x) (hx : Loc X.env.scope x) (hf : X.fn x = true ∨ X.env.scope.names.lookup x = some .local := by first | exact .inl rfl | exact .inr rfl | assumption) : PG X (.Name x pos) (gName i) := by
  intro pins s σ H v u Q I r h
  exact wpAny_assign_Name (store_ok I hN hi hx r (fun s' I' => ⟨_, H, I', h⟩) hf)
noncomputable def tAsg (te : TE) (g : TG) : TS := fun D σ H => te σ H fun x H1 => g x σ H1 D.nx
theorem ps_set {i : Nat} {x : Str} {e : Expr} {te : TE} {pos' : Pos} (hN : X.N.Nodup) (hi : X.N[i]? = some x) (hx : Loc X.env.scope x) (he : PE X e te) (hs : swapsWith e (some (.Name x pos')) pos.line X.env = pure false := by rfl) (hf : X.fn x = true ∨ X.env.scope.names.lookup x = some .local := by first | exact .inl rfl | exact .inr rfl | assumption) :
    PS X (.Assign [.Name x pos'] e pos) (tAsg te (gName i)) := by
  intro pins s σ H D I h
  refine wpAny_Assign_Name (thn (he pins s σ H _ I h) fun v s1 ⟨y, H1, I1, r1, q1⟩ => ?_) hs
  exact store_ok I1 hN hi hx r1 (fun s2 I2 => ⟨_, H1, I2, q1⟩) hf
noncomputable def tAug (i : Nat) (te : TE) (ti : TIp) : TS := fun D σ H => ∃ x, σ[i]? = some (some x) ∧ te σ H fun y H1 => ti x y H1 fun z H2 => D.nx (σ.set i (some z)) H2
theorem ps_aug {i : Nat} {x : Str} {e : Expr} {te : TE} {op : Operator} {ti : TIp} {pos' : Pos} (hN : X.N.Nodup) (hi : X.N[i]? = some x) (hx : Loc X.env.scope x) (he : PE X e te) (ho : PIp X op ti) (hf : X.fn x = true ∨ X.env.scope.names.lookup x = some .local := by first | exact .inl rfl | exact .inr rfl | assumption) :
    PS X (.AugAssign (.Name x pos') op e pos) (tAug i te ti) := by
  intro pins s σ H D I h
  obtain ⟨v, e1, h⟩ := h
  obtain ⟨m, hn, hl⟩ := I.loc
  have vis : Vis X.env.scope x := by rcases hx with k | k; exact .inl k; exact .inr (.inl k)
  obtain ⟨u, r, l⟩ := hl i x v hi e1 vis
  refine wpAny_AugAssign_Name ?_
  have go : wpAny (model X.prog X.w) X.A (eval e X.env) (fun w s₂ => wpAny (model X.prog X.w) X.A (inplaceOp op u w) (fun r s₃ => wpAny (model X.prog X.w) X.A (storeName X.env x r) (fun _ => SP X pins D .next) X.xe s₃) X.xe s₂) X.xe s := by
    refine thn (he pins s σ H _ I h) fun w s1 ⟨y, H1, I1, r1, q1⟩ => ?_
    refine thn (ho pins s1 σ H1 v y u w _ I1 r r1 q1) fun z s2 ⟨zv, H2, I2, r2, q2⟩ => ?_
    exact store_ok I2 hN hi hx r2 (fun s3 I3 => ⟨_, H2, I3, q2⟩) hf
  rcases l with ⟨hk, hm⟩ | ⟨hk, c, hc, hcell⟩
  · exact wpAny_loadName_local I.ok.kind hk hn hm go
  · rcases hk with hk | hk
    · exact wpAny_loadName_cell I.ok.kind hk hc hcell go
    · rcases hx with k | k
      · have : X.env.scope.names.lookup x = some .free := hk
        rw [k] at this; cases this
      · have : X.env.scope.names.lookup x = some .free := hk
        rw [k] at this; cases this
end
section
variable {X : Cx} {pos : Pos}
noncomputable def tWhile (c : TT) (tb : TS) : TS := fun D σ H => ∃ W : Nat → St → Hp → Prop, (∃ m, W m σ H) ∧ ∀ m σ H, W m σ H →
  c σ H fun b H1 => if b = true then ∃ N : St → Hp → Prop, (∀ σ' H', N σ' H' → ∃ m', m' < m ∧ W m' σ' H') ∧ tb { D with nx := N, ct := N, bk := D.nx } σ H1 else D.nx σ H1
theorem ps_while {c : Expr} {body : List Stmt} {tc : TT} {tb : TS} (hp : PassesOwn (model X.prog X.w) X.A X.env X.xe) (hc : PT X c tc) (hb : PSs X body tb) : PS X (.While c body [] pos) (tWhile tc tb) := by
  intro pins s σ H D I h
  obtain ⟨W, ⟨m0, w0⟩, turn⟩ := h
  refine wpAny_While (codeAny_whileLoop (fun n s' => ∃ σ' H', Inv X pins σ' H' s' ∧ W n σ' H') ?_ m0 ⟨σ, H, I, w0⟩)
  rintro n s1 ⟨σ1, H1, I1, w1⟩
  refine wpAny_passesOwn hp (thn (hc pins s1 σ1 H1 _ I1 (turn n σ1 H1 w1)) fun b s2 ⟨H2, I2, q2⟩ => ?_)
  cases b with
  | true =>
    obtain ⟨N, hN, q2⟩ := q2
    rw [if_pos rfl]
    refine wpAny_passesOwn hp (thn (hb pins s2 σ1 H2 _ I2 q2) fun f s3 q3 => ?_)
    cases f with
    | next =>
      obtain ⟨σ3, H3, I3, n3⟩ := q3
      obtain ⟨m', hm, w3⟩ := hN σ3 H3 n3
      exact ⟨m', hm, σ3, H3, I3, w3⟩
    | cont =>
      obtain ⟨σ3, H3, I3, n3⟩ := q3
      obtain ⟨m', hm, w3⟩ := hN σ3 H3 n3
      exact ⟨m', hm, σ3, H3, I3, w3⟩
    | brk => exact q3
    | ret v => exact q3
  | false =>
    rw [if_neg Bool.false_ne_true]
    exact wpAny_execs_nil ⟨σ1, H2, I2, q2⟩
end
structure It where
  go : Nat → Hp → Prop
  yld : Nat → Hp → V → Hp → Prop
  stop : Nat → Hp → Prop
noncomputable def FpOk (X : Cx) (pins : List (Addr × Obj)) (H : Hp) (b : Addr) : Prop :=
  H b = none ∧ b ≠ X.env.locals ∧ b ∉ X.fs ∧ (b ∈ X.ex ∨ X.s_0.heap.objs.size ≤ b) ∧ (∀ x c, X.env.cells.lookup x = some c → c ≠ b) ∧ ∀ p ∈ X.pn ++ pins, p.1 ≠ b
theorem Inv.fpOk {X : Cx} {pins : List (Addr × Obj)} {σ : St} {H H' : Hp} {s : Shared} {b : Addr} (I : Inv X pins σ H s) (hb : s.heap.objs.size ≤ b) (hn : H' b = none) : FpOk X pins H' b := by
  refine ⟨hn, Nat.ne_of_gt (Nat.lt_of_lt_of_le I.lt hb), I.nofs hb, .inr (Nat.le_trans I.sz hb), fun x c e z => ?_, fun p hp z => ?_⟩
  · obtain ⟨v, q⟩ := I.cell x c e
    exact absurd (Nat.lt_of_lt_of_le q.lt (by rw [z]; exact hb)) (Nat.lt_irrefl _)
  · exact absurd (Nat.lt_of_lt_of_le (Heap.lt_size (I.pin p hp).1) (by rw [z]; exact hb)) (Nat.lt_irrefl _)
structure Turn (P : Program) (w : World) (K : PySem.W.Frag) (tg : Expr) (J : It) (fp : List Addr) (it : Addr) (tn : Nat → Heap → Prop) : Prop where
  mem : it ∈ fp
  obj : ∀ i h, tn i h → ∀ b ∈ fp, ∃ o, h.get? b = some o ∧ ∀ v, o.data ≠ .cell v
  keep : ∀ i h h', tn i h → (∀ b ∈ fp, ∀ o, h.get? b = some o → h'.get? b = some o) → tn i h'
  item : ∀ (X : Cx), X.prog = P → X.w = w → X.K = K → X.calm = true → ∀ (i : Nat) (pins : List (Addr × Obj)) (s : Shared) (σ : St) (H : Hp) (E : Value → Shared → Prop), Inv X pins σ H s → (∀ b ∈ fp, FpOk X pins H b) → tn i s.heap → J.go i H →
    wpAny (model P w) X.A (pyNext (.ref it)) (fun r s1 => ∃ u, r = some u ∧
      wpAny (model P w) X.A (letOwnedTupleGo tg (.ref it) u) (fun _ s2 => ∃ x H', Inv X pins σ H' s2 ∧ RelV x u ∧ J.yld i H x H' ∧ tn (i + 1) s2.heap ∧ ∀ b ∈ fp, H' b = none) E s1) E s
  done : ∀ (X : Cx), X.prog = P → X.w = w → X.K = K → X.calm = true → ∀ (i : Nat) (pins : List (Addr × Obj)) (s : Shared) (σ : St) (H : Hp) (E : Value → Shared → Prop), Inv X pins σ H s → (∀ b ∈ fp, FpOk X pins H b) → tn i s.heap → J.stop i H →
    wpAny (model P w) X.A (pyNext (.ref it)) (fun r s1 => r = none ∧ Inv X pins σ H s1) E s
  self : ∀ (A : Around) (i : Nat) (s : Shared) (Q : Value → Shared → Prop) (E : Value → Shared → Prop), tn i s.heap → Q (.ref it) s → wpAny (model P w) A (pyIter (.ref it)) Q E s
noncomputable abbrev TI := St → Hp → (It → Hp → Prop) → Prop
noncomputable def PIE (X : Cx) (pins : List (Addr × Obj)) (σ : St) (tg : Expr) (R : It → Hp → Prop) (itv : Value) (s2 : Shared) : Prop :=
  ∃ (it : Addr) (fp : List Addr) (tn : Nat → Heap → Prop) (J : It) (H' : Hp), itv = .ref it ∧ Inv X pins σ H' s2 ∧ Turn X.prog X.w X.K tg J fp it tn ∧ tn 0 s2.heap ∧ (∀ b ∈ fp, FpOk X pins H' b) ∧ R J H'
noncomputable def PI (X : Cx) (tg iter : Expr) (wi : TI) : Prop :=
  ∀ (pins : List (Addr × Obj)) (s : Shared) (σ : St) (H : Hp) (R : It → Hp → Prop), Inv X pins σ H s → wi σ H R →
    wpAny (model X.prog X.w) X.A (eval iter X.env) (fun v s1 => wpAny (model X.prog X.w) X.A (pyIter v) (PIE X pins σ tg R) X.xe s1) X.xe s

theorem go_of {M : Model} {A : Around} {E : Value → Shared → Prop} {s : Shared} {tg : Expr} {it : Addr} {u : Value} {o : Obj} {n : String} {vs : Array Value} {Q : Unit → Shared → Prop} (ho : s.heap.get? it = some o) (hc : o.cls = .type n) (hd : o.data = .fields vs)
    (hn : ["enumerate", "zip", "dict_itemiterator", "dict_reverseitemiterator", "odict_iterator", "itertools.zip_longest", "itertools.pairwise"].contains n = false) (hQ : Q () s) : wpAny M A (letOwnedTupleGo tg (.ref it) u) Q E s := by
  unfold letOwnedTupleGo
  cases tg <;> first
    | exact wpAny_pure hQ
    | (cases u <;> first
        | exact wpAny_pure hQ
        | (refine wpAny_bind (wpAny_load ho ?_)
           rw [hc, hd]
           show wpAny M A (if (["enumerate", "zip", "dict_itemiterator", "dict_reverseitemiterator", "odict_iterator", "itertools.zip_longest", "itertools.pairwise"].contains n && vs[0]? == some (rawInt _)) = true then _ else _) Q E s
           rw [if_neg (by intro h; rw [hn, Bool.false_and] at h; cases h)]
           exact wpAny_pure hQ))

noncomputable def Itl (K : PySem.W.Frag) (a : Addr) : It :=
  ⟨fun i H => ∃ xs x, SqL K H a xs ∧ xs[i]? = some x, fun i H x H' => H' = H ∧ ∀ xs, SqL K H a xs → xs[i]? = some x, fun i H => ∃ xs, SqL K H a xs ∧ xs.length ≤ i⟩
noncomputable def Itr (lo : Int) (n : Nat) : It := ⟨fun i _ => i < n, fun i H x H' => H' = H ∧ x = .int (lo + i), fun i _ => n ≤ i⟩
theorem turn_list {P : Program} {w : World} {K : PySem.W.Frag} {tg : Expr} (a it : Addr) : Turn P w K tg (Itl K a) [it] it (fun i h => h.IsListIter it a i) where
  mem := by simp
  obj := fun i h st b hb => by
    have e : b = it := by simpa using hb
    subst e
    obtain ⟨o, e, c, d⟩ := st
    exact ⟨o, e, fun v z => by rw [d] at z; cases z⟩
  keep := fun i h h' st k => st.at fun o e => k it (by simp) o e
  item := by
    intro X hP hw hK hc i pins s σ H E I hf st hg
    subst hP hw hK
    obtain ⟨xs, x, hq, hx⟩ := hg
    obtain ⟨its, rv, p, hz⟩ := I.list hq
    obtain ⟨u, hu, ru⟩ := rv.get hx
    obtain ⟨f0, f1, f2, f3, f4, f5⟩ := hf it (by simp)
    refine wpAny_pyNext_list_item st p.isList (x := u) (by simpa using hu) fun h' st' sb => ?_
    have I1 : Inv X pins σ H { s with heap := h' } := I.turned (t' := s.toks) (fun b o hb e => (sb.2 b hb).trans e) f0 f1 f3 f4 f5
    obtain ⟨o, e, c, d⟩ := id st'
    exact ⟨u, rfl, go_of (s := { s with heap := h' }) e c d (by decide) ⟨x, H, I1, ru, ⟨rfl, fun ys hy => by rw [I.list_inj hy hq]; exact hx⟩, st', fun b hb => (hf b hb).1⟩⟩
  done := by
    intro X hP hw hK hc i pins s σ H E I hf st hg
    subst hP hw hK
    obtain ⟨xs, hq, hx⟩ := hg
    obtain ⟨its, rv, p, hz⟩ := I.list hq
    obtain ⟨f0, f1, f2, f3, f4, f5⟩ := hf it (by simp)
    have hl := rv.length
    exact wpAny_pyNext_list_end (I.ok.hd hc) st p.isList (by simp; omega) fun h' eb => ⟨rfl, I.turned (t' := s.toks) (fun b o hb e => eb b o hb e) f0 f1 f3 f4 f5⟩
  self := fun _ _ _ _ _ st h => wpAny_pyIter_listiter st h
theorem turn_range {P : Program} {w : World} {K : PySem.W.Frag} {tg : Expr} (it : Addr) (lo : Int) (n : Nat) : Turn P w K tg (Itr lo n) [it] it (fun i h => IsRangeIter h it (lo + (i : Nat) * 1) ((n : Int) - (i : Nat)) 1) where
  mem := by simp
  obj := fun i h st b hb => by
    have e : b = it := by simpa using hb
    subst e
    exact ⟨_, st, fun v z => by
      have z' : Data.fields _ = Data.cell v := z
      cases z'⟩
  keep := fun i h h' st k => k it (by simp) _ st
  item := by
    intro X hP hw hK hc i pins s σ H E I hf st hg
    subst hP hw hK
    obtain ⟨f0, f1, f2, f3, f4, f5⟩ := hf it (by simp)
    have W := Walks.range (prog := X.prog) (w := X.w) (I.ok.hd hc) it lo 1 n
    refine W.item i s _ _ hg st fun v h' tk hv st' kk => ?_
    obtain ⟨t, rfl⟩ := hv
    have I1 : Inv X pins σ H { s with heap := h', toks := tk } := I.turned (fun b o hb e => kk b o (by simpa using hb) e) f0 f1 f3 f4 f5
    refine ⟨_, rfl, go_of (s := { s with heap := h', toks := tk }) (n := "range_iterator") st' rfl rfl (by decide) ⟨.int (lo + i), H, I1, ⟨t, ?_⟩, ⟨rfl, rfl⟩, st', fun b hb => (hf b hb).1⟩⟩
    rw [Int.mul_one]
  done := by
    intro X hP hw hK hc i pins s σ H E I hf st hg
    subst hP hw hK
    obtain ⟨f0, f1, f2, f3, f4, f5⟩ := hf it (by simp)
    exact wpAny_pyNext_range_end (I.ok.hd hc) st (by have : n ≤ i := hg; omega) fun h' eb => ⟨rfl, I.turned (t' := s.toks) (fun b o hb e => eb b o hb e) f0 f1 f3 f4 f5⟩
  self := fun _ _ _ _ _ st h => wpAny_pyIter_rangeiter st h
end L2
namespace L2
open PySem PySem.Spec PyProof.Rows
section
variable {X : Cx} {tg : Expr}
noncomputable def iList (K : PySem.W.Frag) (tl : TE) : TI := fun σ H R => tl σ H fun x H1 => ∃ a, x = .ref a ∧ (∃ xs, SqL K H1 a xs) ∧ R (Itl K a) H1
theorem pi_list {l : Expr} {tl : TE} (hl : PE X l tl) : PI X tg l (iList X.K tl) := by
  intro pins s σ H R I h
  refine thn (hl pins s σ H _ I h) fun v s1 ⟨x, H1, I1, r1, q1⟩ => ?_
  obtain ⟨a, e, ⟨xs, hq⟩, q⟩ := q1
  subst e
  cases r1
  obtain ⟨its, rv, p, hz⟩ := I1.list hq
  refine wpAny_pyIter_list p.isList ?_
  refine ⟨s1.heap.objs.size, [s1.heap.objs.size], _, _, H1, rfl, I1.kept (t' := s1.toks) fun b o e => Heap.get?_push_of_some _ e, turn_list a _, ⟨_, Heap.get?_push_size _ rfl, rfl, rfl⟩, fun b hb => ?_, q⟩
  have e : b = s1.heap.objs.size := by simpa using hb
  subst e
  exact I1.fpOk (Nat.le_refl _) (I1.hok.fresh (Nat.le_refl _))
theorem range_it {pins : List (Addr × Obj)} {σ : St} {H : Hp} {s : Shared} {R : It → Hp → Prop} {E : Value → Shared → Prop} {lo hi : Int} {t u v : Tok} {tk : Nat} (I : Inv X pins σ H s) (h1 : -(2 ^ 62) ≤ lo) (h2 : lo < 2 ^ 62) (h3 : -(2 ^ 62) ≤ hi) (h4 : hi < 2 ^ 62)
    (q : R (Itr lo (hi - lo).toNat) H) : wpAny (model X.prog X.w) X.A (pyIter (.ref s.heap.objs.size)) (PIE X pins σ tg R) E { s with heap := s.heap.push { cls := .type "range", data := .fields #[.int lo t, .int hi u, .int 1 v] }, toks := tk } := by
  refine wpAny_pyIter_range (IsRange.new ..) (small_one h1 h2 h3 h4) ?_
  have I1 : Inv X pins σ H { s with heap := s.heap.push { cls := .type "range", data := .fields #[.int lo t, .int hi u, .int 1 v] }, toks := tk } := I.kept fun b o e => Heap.get?_push_of_some _ e
  refine ⟨(s.heap.push { cls := .type "range", data := .fields #[.int lo t, .int hi u, .int 1 v] }).objs.size, [(s.heap.push { cls := .type "range", data := .fields #[.int lo t, .int hi u, .int 1 v] }).objs.size], _, _, H, rfl,
    I1.kept (t' := tk) fun b o e => Heap.get?_push_of_some _ e, turn_range _ lo (hi - lo).toNat, ?_, fun b hb => ?_, q⟩
  · have e1 : lo + ((0 : Nat) : Int) * 1 = lo := by simp
    have e2 : (((hi - lo).toNat : Nat) : Int) - ((0 : Nat) : Int) = Builtin.Range.rangeSize lo hi 1 := by rw [rangeSize_one]; split <;> omega
    show IsRangeIter _ _ (lo + ((0 : Nat) : Int) * 1) ((((hi - lo).toNat : Nat) : Int) - ((0 : Nat) : Int)) 1
    rw [e1, e2]
    exact Heap.get?_push_size _ rfl
  · have e : b = (s.heap.push { cls := .type "range", data := .fields #[.int lo t, .int hi u, .int 1 v] }).objs.size := by simpa using hb
    subst e
    exact I1.fpOk (Nat.le_refl _) (I1.hok.fresh (Nat.le_refl _))
noncomputable def iRng1 (ta : TA) : TI := fun σ H R => ta σ H fun vs H1 => ∃ j : Int, vs = [.int j] ∧ -(2 ^ 62) ≤ j ∧ j < 2 ^ 62 ∧ R (Itr 0 j.toNat) H1
theorem pi_range1 {a : Expr} {ta : TA} {p pos : Pos} (hg : Gl X "range") (hm : X.mg "range" = none) (ha : PA X [a] ta) (hs : starEach [a] X.env = [(false, eval a X.env)] := by rfl) : PI X tg (.Call (.Name "range" p) [a] [] pos) (iRng1 ta) := by
  intro pins s σ H R I h
  refine Call_ (ld_blt I hg hm boot_range (PyProof.Rows.callWith_type1 (thn (ha pos pins s σ H _ I h) fun us s1 ⟨vs, H1, I1, r1, q1⟩ => ?_) hs rfl))
  obtain ⟨j, e, q1, q2, q⟩ := q1
  subst e
  cases r1 with
  | cons r rr =>
    cases rr
    obtain ⟨t, rfl⟩ := r
    exact call_range_1 (range_it I1 (by omega) (by omega) q1 q2 (by simpa using q))
noncomputable def pinsAt (fp : List Addr) (h : Heap) : List (Addr × Obj) := fp.filterMap fun b => (h.get? b).map fun o => (b, o)
theorem mem_pinsAt {fp : List Addr} {h : Heap} {b : Addr} {o : Obj} (hb : b ∈ fp) (e : h.get? b = some o) : (b, o) ∈ pinsAt fp h := List.mem_filterMap.mpr ⟨b, hb, by rw [e]; rfl⟩
theorem of_pinsAt {fp : List Addr} {h : Heap} {p : Addr × Obj} (hp : p ∈ pinsAt fp h) : p.1 ∈ fp ∧ h.get? p.1 = some p.2 := by
  obtain ⟨b, hb, e⟩ := List.mem_filterMap.mp hp
  cases q : h.get? b with
  | none => rw [q] at e; cases e
  | some o =>
    rw [q] at e
    have e' : (b, o) = p := Option.some.inj e
    subst e'
    exact ⟨hb, q⟩
theorem Inv.pinned {pins : List (Addr × Obj)} {σ : St} {H : Hp} {s : Shared} {fp : List Addr} (I : Inv X pins σ H s) (hf : ∀ b ∈ fp, FpOk X pins H b) (ho : ∀ b ∈ fp, ∃ o, s.heap.get? b = some o ∧ ∀ v, o.data ≠ .cell v) : Inv X (pins ++ pinsAt fp s.heap) σ H s :=
  I.pins_of fun p hp => (List.mem_append.mp hp).elim (fun z => I.pin p (List.mem_append_right _ z)) fun z => by
    obtain ⟨hb, e⟩ := of_pinsAt z
    obtain ⟨f0, f1, f2, _⟩ := hf p.1 hb
    obtain ⟨o, e', d⟩ := ho p.1 hb
    rw [e] at e'; cases e'
    exact ⟨e, f0, f1, f2, d⟩
theorem Inv.unpinned {pins pl : List (Addr × Obj)} {σ : St} {H : Hp} {s : Shared} (I : Inv X (pins ++ pl) σ H s) : Inv X pins σ H s := I.pins_of fun p hp => I.pin p (List.mem_append_right _ (List.mem_append_left _ hp))
end
end L2
namespace L2
open PySem PySem.Spec PyProof.Rows
noncomputable abbrev R2 := V → V → Hp → VK → Prop
noncomputable def OpR (X : Cx) (f : Value → Value → Sem Value) (r : R2) : Prop :=
  ∀ (pins : List (Addr × Obj)) (s : Shared) (σ : St) (H : Hp) (x y : V) (v u : Value) (Q : VK), Inv X pins σ H s → RelV x v → RelV y u → r x y H Q →
    wpAny (model X.prog X.w) X.A (f v u) (EP X pins σ Q) X.xe s
noncomputable def UnR (X : Cx) (f : Value → Sem Value) (r : V → Hp → VK → Prop) : Prop :=
  ∀ (pins : List (Addr × Obj)) (s : Shared) (σ : St) (H : Hp) (x : V) (v : Value) (Q : VK), Inv X pins σ H s → RelV x v → r x H Q →
    wpAny (model X.prog X.w) X.A (f v) (EP X pins σ Q) X.xe s
noncomputable def CallR (X : Cx) (f : Value) (r : List V → Hp → VK → Prop) : Prop :=
  ∀ (pins : List (Addr × Obj)) (s : Shared) (σ : St) (H : Hp) (xs : List V) (us : List Value) (Q : VK), Inv X pins σ H s → Vals xs us → r xs H Q →
    wpAny (model X.prog X.w) X.A (call f us) (EP X pins σ Q) X.xe s
noncomputable def tOp (r : R2) (ta tb : TE) : TE := fun σ H Q => ta σ H fun x H1 => tb σ H1 fun y H2 => r x y H2 Q
noncomputable def tUn (r : V → Hp → VK → Prop) (ta : TE) : TE := fun σ H Q => ta σ H fun x H1 => r x H1 Q
noncomputable def rI (C : Int → Int → Prop) (g : Int → Int → V) : R2 := fun x y H Q => ∃ i j, x = .int i ∧ y = .int j ∧ C i j ∧ Q (g i j) H
noncomputable def rI0 (g : Int → Int → V) : R2 := fun x y H Q => ∃ i j, x = .int i ∧ y = .int j ∧ Q (g i j) H
noncomputable def rU (g : Int → V) : V → Hp → VK → Prop := fun x H Q => ∃ i, x = .int i ∧ Q (g i) H

section
variable {X : Cx} {a b c : Expr} {ta tb tc : TE} {pos : Pos}
theorem binT (ha : PE X a ta) (hb : PE X b tb) {pins : List (Addr × Obj)} {s : Shared} {σ : St} {H : Hp} {R : V → V → Hp → Prop} (I : Inv X pins σ H s)
    (h : ta σ H fun x H1 => tb σ H1 fun y H2 => R x y H2) {Q : Value → Shared → Prop} {f : Value → Value → Sem Value}
    (hf : ∀ v u s2 x y H2, Inv X pins σ H2 s2 → RelV x v → RelV y u → R x y H2 → wpAny (model X.prog X.w) X.A (f v u) Q X.xe s2) :
    wpAny (model X.prog X.w) X.A (eval a X.env) (fun v s₁ => wpAny (model X.prog X.w) X.A (eval b X.env) (fun u s₂ => wpAny (model X.prog X.w) X.A (f v u) Q X.xe s₂) X.xe s₁) X.xe s := by
  refine thn (ha pins s σ H _ I h) fun v s1 ⟨x, H1, I1, r1, q1⟩ => ?_
  refine thn (hb pins s1 σ H1 _ I1 q1) fun u s2 ⟨y, H2, I2, r2, q2⟩ => ?_
  exact hf v u s2 x y H2 I2 r1 r2 q2

theorem pe_op {op : Operator} {r : R2} (ho : OpR X (binaryOp op) r) (ha : PE X a ta) (hb : PE X b tb) : PE X (.BinOp a op b pos) (tOp r ta tb) := by
  intro pins s σ H Q I h
  exact wpAny_BinOp (binT ha hb I h fun v u s2 x y H2 I2 rx ry q => ho pins s2 σ H2 x y v u Q I2 rx ry q)
theorem pe_un {op : UnaryOp} {r : V → Hp → VK → Prop} (ho : UnR X (unaryOp op) r) (ha : PE X a ta) : PE X (.UnaryOp op a pos) (tUn r ta) := by
  intro pins s σ H Q I h
  exact UnaryOp_ (thn (ha pins s σ H _ I h) fun v s1 ⟨x, H1, I1, r1, q1⟩ => ho pins s1 σ H1 x v Q I1 r1 q1)
theorem opI {f : Value → Value → Sem Value} {C : Int → Int → Prop} {g : Int → Int → Int}
    (rule : ∀ (i j : Int) (t u : Tok) (s : Shared) (Q : Value → Shared → Prop) (E : Value → Shared → Prop), C i j → Q (.int (g i j) s.toks) { s with toks := s.toks + 1 } → wpAny (model X.prog X.w) X.A (f (.int i t) (.int j u)) Q E s) :
    OpR X f (rI C fun i j => .int (g i j)) := by
  intro pins s σ H x y v u Q I rx ry h
  obtain ⟨i, j, rfl, rfl, hc, q⟩ := h
  obtain ⟨t, rfl⟩ := rx
  obtain ⟨t', rfl⟩ := ry
  exact rule i j t t' s _ _ hc ⟨.int (g i j), H, I.tok _, ⟨_, rfl⟩, q⟩
theorem opI0 {f : Value → Value → Sem Value} {g : Int → Int → Int}
    (rule : ∀ (i j : Int) (t u : Tok) (s : Shared) (Q : Value → Shared → Prop) (E : Value → Shared → Prop), Q (.int (g i j) s.toks) { s with toks := s.toks + 1 } → wpAny (model X.prog X.w) X.A (f (.int i t) (.int j u)) Q E s) :
    OpR X f (rI0 fun i j => .int (g i j)) := by
  intro pins s σ H x y v u Q I rx ry h
  obtain ⟨i, j, rfl, rfl, q⟩ := h
  obtain ⟨t, rfl⟩ := rx
  obtain ⟨t', rfl⟩ := ry
  exact rule i j t t' s _ _ ⟨.int (g i j), H, I.tok _, ⟨_, rfl⟩, q⟩
theorem opB0 {f : Value → Value → Sem Value} {g : Int → Int → Bool}
    (rule : ∀ (i j : Int) (t u : Tok) (s : Shared) (Q : Value → Shared → Prop) (E : Value → Shared → Prop), Q (.bool (g i j)) s → wpAny (model X.prog X.w) X.A (f (.int i t) (.int j u)) Q E s) :
    OpR X f (rI0 fun i j => .bl (g i j)) := by
  intro pins s σ H x y v u Q I rx ry h
  obtain ⟨i, j, rfl, rfl, q⟩ := h
  obtain ⟨t, rfl⟩ := rx
  obtain ⟨t', rfl⟩ := ry
  exact rule i j t t' s _ _ ⟨.bl (g i j), H, I, rfl, q⟩

noncomputable def CMul (i j : Int) : Prop := (-(2 ^ 64) < i ∧ i < 2 ^ 64) ∨ (-(2 ^ 64) < j ∧ j < 2 ^ 64)
theorem CMul.ok {i j : Int} (h : CMul i j) : IntMulOk i j := by
  rcases h with ⟨h1, h2⟩ | ⟨h1, h2⟩
  · exact .of_left (intBits_le_64 h1 h2)
  · exact .of_right (intBits_le_64 h1 h2)
theorem two_pow_nn (k : Nat) : (0 : Int) ≤ 2 ^ k := by
  rw [two_pow_cast]
  exact Int.natCast_nonneg _

theorem op_add : OpR X (binaryOp .Add) (rI0 fun i j => .int (i + j)) := opI0 fun _ _ _ _ _ _ _ q => add_int q
theorem op_sub : OpR X (binaryOp .Sub) (rI0 fun i j => .int (i - j)) := opI0 fun _ _ _ _ _ _ _ q => sub_int q
theorem op_mod : OpR X (binaryOp .Mod) (rI (fun _ j => 0 < j) fun i j => .int (i % j)) := opI fun i j _ _ _ _ _ hc q => by
  have h1 : (0 : Int) < j := hc
  exact mod_int' (by omega) (by rw [Int.fmod_eq_emod_of_nonneg i (by omega)]; exact q)
theorem op_shr : OpR X (binaryOp .RShift) (rI (fun _ j => 0 ≤ j) fun i j => .int (i / 2 ^ j.toNat)) := opI fun i j _ _ _ _ _ hc q =>
  rshift_int hc (by rw [Int.fdiv_eq_ediv_of_nonneg i (two_pow_nn _)]; exact q)
theorem iop_add : OpR X (inplaceOp .Add) (rI0 fun i j => .int (i + j)) := opI0 fun _ _ _ _ _ _ _ q => iadd_int q
theorem unI {f : Value → Sem Value} {g : Int → Int}
    (rule : ∀ (i : Int) (t : Tok) (s : Shared) (Q : Value → Shared → Prop) (E : Value → Shared → Prop), Q (.int (g i) s.toks) { s with toks := s.toks + 1 } → wpAny (model X.prog X.w) X.A (f (.int i t)) Q E s) :
    UnR X f (rU fun i => .int (g i)) := by
  intro pins s σ H x v Q I rx h
  obtain ⟨i, rfl, q⟩ := h
  obtain ⟨t, rfl⟩ := rx
  exact rule i t s _ _ ⟨.int (g i), H, I.tok _, ⟨_, rfl⟩, q⟩
theorem un_neg : UnR X (unaryOp .USub) (rU fun i => .int (-i)) := unI fun _ _ _ _ _ q => neg_int q
end
noncomputable def scal : V → V → Bool
  | .non, .non => true | .non, .int _ => true | .int _, .non => true | .non, .bl _ => true | .bl _, .non => true | .non, .str _ => true | .str _, .non => true
  | .int _, .int _ => true | .bl _, .bl _ => true | .str _, .str _ => true | .byt _, .byt _ => true
  | .int _, .str _ => true | .str _, .int _ => true | .bl _, .str _ => true | .str _, .bl _ => true
  | _, _ => false
noncomputable def rEq : R2 := fun x y H Q => scal x y = true ∧ Q (.bl (decide (x = y))) H
noncomputable def rNe : R2 := fun x y H Q => scal x y = true ∧ Q (.bl (!decide (x = y))) H

theorem dec_int {i j : Int} : decide (V.int i = V.int j) = (i == j) := by
  rw [Bool.eq_iff_iff]
  simp
theorem dec_bl {i j : Bool} : decide (V.bl i = V.bl j) = (i == j) := by
  rw [Bool.eq_iff_iff]
  simp
theorem dec_str {i j : Str} : decide (V.str i = V.str j) = (i == j) := by
  rw [Bool.eq_iff_iff]
  simp
theorem dec_byt {i j : Array UInt8} : decide (V.byt i = V.byt j) = (i.toList == j.toList) := by
  rw [Bool.eq_iff_iff]
  cases i
  cases j
  simp

section
variable {X : Cx} {a b c : Expr} {ta tb tc : TE} {pos : Pos}
theorem fin_bl {pins : List (Addr × Obj)} {σ : St} {H : Hp} {s : Shared} {Q : VK} {k k' : Bool} (I : Inv X pins σ H s) (q : Q (.bl k) H) (e : k = k') : EP X pins σ Q (.bool k') s := by
  subst e
  exact ⟨.bl k, H, I, rfl, q⟩
theorem op_eq : OpR X (compareOp .Eq) rEq := by
  intro pins s σ H x y v u Q I rx ry h
  obtain ⟨hs, q⟩ := h
  cases x with
  | non =>
    cases rx
    cases y with
    | non => cases ry; exact PySem.EqNone.eq_none_none (fin_bl I q (by simp))
    | bl j => cases ry; exact PySem.EqNone.eq_none_bool (fin_bl I q (by simp))
    | int j => obtain ⟨t', rfl⟩ := ry; exact PySem.EqNone.eq_none_int (fin_bl I q (by simp))
    | str j => obtain ⟨t', rfl⟩ := ry; exact PySem.EqNone.eq_none_str (fin_bl I q (by simp))
    | _ => exact absurd (show false = true from hs) Bool.false_ne_true
  | bl i =>
    cases rx
    cases y with
    | non => cases ry; exact PySem.EqNone.eq_bool_none (fin_bl I q (by simp))
    | bl j => cases ry; exact eq_bool (fin_bl I q dec_bl)
    | str j => obtain ⟨t', rfl⟩ := ry; exact PySem.EqMixed.eq_bool_str (fin_bl I q (by simp))
    | _ => exact absurd (show false = true from hs) Bool.false_ne_true
  | int i =>
    obtain ⟨t, rfl⟩ := rx
    cases y with
    | non => cases ry; exact PySem.EqNone.eq_int_none (fin_bl I q (by simp))
    | int j => obtain ⟨t', rfl⟩ := ry; exact eq_int (fin_bl I q dec_int)
    | str j => obtain ⟨t', rfl⟩ := ry; exact PySem.EqMixed.eq_int_str (fin_bl I q (by simp))
    | _ => exact absurd (show false = true from hs) Bool.false_ne_true
  | str i =>
    obtain ⟨t, rfl⟩ := rx
    cases y with
    | non => cases ry; exact PySem.EqNone.eq_str_none (fin_bl I q (by simp))
    | bl j => cases ry; exact PySem.EqMixed.eq_str_bool (fin_bl I q (by simp))
    | int j => obtain ⟨t', rfl⟩ := ry; exact PySem.EqMixed.eq_str_int (fin_bl I q (by simp))
    | str j => obtain ⟨t', rfl⟩ := ry; exact eq_str (fin_bl I q dec_str)
    | _ => exact absurd (show false = true from hs) Bool.false_ne_true
  | byt i =>
    obtain ⟨t, rfl⟩ := rx
    cases y with
    | byt j => obtain ⟨t', rfl⟩ := ry; exact PySem.W.eq_bytes (fin_bl I q dec_byt)
    | _ => exact absurd (show false = true from hs) Bool.false_ne_true
  | _ => cases y <;> exact absurd (show false = true from hs) Bool.false_ne_true
theorem op_ne : OpR X (compareOp .NotEq) rNe := by
  intro pins s σ H x y v u Q I rx ry h
  obtain ⟨hs, q⟩ := h
  cases x with
  | non =>
    cases rx
    cases y with
    | non => cases ry; exact PySem.EqNone.ne_none_none (fin_bl I q (by simp))
    | bl j => cases ry; exact PySem.EqNone.ne_none_bool (fin_bl I q (by simp))
    | int j => obtain ⟨t', rfl⟩ := ry; exact PySem.EqNone.ne_none_int (fin_bl I q (by simp))
    | str j => obtain ⟨t', rfl⟩ := ry; exact PySem.EqNone.ne_none_str (fin_bl I q (by simp))
    | _ => exact absurd (show false = true from hs) Bool.false_ne_true
  | bl i =>
    cases rx
    cases y with
    | non => cases ry; exact PySem.EqNone.ne_bool_none (fin_bl I q (by simp))
    | bl j => cases ry; exact ne_bool (fin_bl I q (congrArg not dec_bl))
    | str j => obtain ⟨t', rfl⟩ := ry; exact PySem.EqMixed.ne_bool_str (fin_bl I q (by simp))
    | _ => exact absurd (show false = true from hs) Bool.false_ne_true
  | int i =>
    obtain ⟨t, rfl⟩ := rx
    cases y with
    | non => cases ry; exact PySem.EqNone.ne_int_none (fin_bl I q (by simp))
    | int j => obtain ⟨t', rfl⟩ := ry; exact ne_int (fin_bl I q (congrArg not dec_int))
    | str j => obtain ⟨t', rfl⟩ := ry; exact PySem.EqMixed.ne_int_str (fin_bl I q (by simp))
    | _ => exact absurd (show false = true from hs) Bool.false_ne_true
  | str i =>
    obtain ⟨t, rfl⟩ := rx
    cases y with
    | non => cases ry; exact PySem.EqNone.ne_str_none (fin_bl I q (by simp))
    | bl j => cases ry; exact PySem.EqMixed.ne_str_bool (fin_bl I q (by simp))
    | int j => obtain ⟨t', rfl⟩ := ry; exact PySem.EqMixed.ne_str_int (fin_bl I q (by simp))
    | str j => obtain ⟨t', rfl⟩ := ry; exact ne_str (fin_bl I q (congrArg not dec_str))
    | _ => exact absurd (show false = true from hs) Bool.false_ne_true
  | byt i =>
    obtain ⟨t, rfl⟩ := rx
    cases y with
    | byt j => obtain ⟨t', rfl⟩ := ry; exact PySem.W.ne_bytes (fin_bl I q (congrArg not dec_byt))
    | _ => exact absurd (show false = true from hs) Bool.false_ne_true
  | _ => cases y <;> exact absurd (show false = true from hs) Bool.false_ne_true

theorem op_lt : OpR X (compareOp .Lt) (rI0 fun i j => .bl (decide (i < j))) := opB0 fun _ _ _ _ _ _ _ q => lt_int q
theorem op_le : OpR X (compareOp .LtE) (rI0 fun i j => .bl (decide (i ≤ j))) := opB0 fun _ _ _ _ _ _ _ q => le_int q
theorem op_gt : OpR X (compareOp .Gt) (rI0 fun i j => .bl (decide (j < i))) := opB0 fun _ _ _ _ _ _ _ q => gt_int q
theorem op_ge : OpR X (compareOp .GtE) (rI0 fun i j => .bl (decide (j ≤ i))) := opB0 fun _ _ _ _ _ _ _ q => ge_int q
theorem nomark (b : Expr) {op : CmpOp} (h : op ≠ .In := by decide) (h2 : op ≠ .NotIn := by decide) : behindInMarks op b = false := by
  have e1 : (op == CmpOp.In) = false := by cases op <;> first | rfl | exact absurd rfl h
  have e2 : (op == CmpOp.NotIn) = false := by cases op <;> first | rfl | exact absurd rfl h2
  cases b <;> simp [behindInMarks, e1, e2]
theorem pe_cmpR {op : CmpOp} {r : R2} (ho : OpR X (compareOp op) r) (ha : PE X a ta) (hb : PE X b tb) (hm : behindInMarks op b = false) : PE X (.Compare a [op] [b] pos) (tOp r ta tb) := by
  intro pins s σ H Q I h
  exact wpAny_Compare1 (binT ha hb I h fun v u s2 x y H2 I2 rx ry q => ho pins s2 σ H2 x y v u Q I2 rx ry q) hm
noncomputable def tTest (t : TE) : TT := fun σ H Q => t σ H fun x H' => ∃ k, x = .bl k ∧ Q k H'
theorem pt_cmpR {op : CmpOp} {r : R2} (ho : OpR X (compareOp op) r) (ha : PE X a ta) (hb : PE X b tb) (hm : behindInMarks op b = false) : PT X (.Compare a [op] [b] pos) (tTest (tOp r ta tb)) := by
  intro pins s σ H Q I h
  refine wpAny_isTrue_Compare1 (thn (ha pins s σ H _ I h) fun v s1 ⟨x, H1, I1, r1, q1⟩ => thn (hb pins s1 σ H1 _ I1 q1) fun u s2 ⟨y, H2, I2, r2, q2⟩ =>
    thn (ho pins s2 σ H2 x y v u _ I2 r1 r2 q2) fun c s3 ⟨z, H3, I3, r3, k, e, q3⟩ => ?_) hm
  subst e
  cases r3
  exact wpAny_truthy_bool ⟨H3, I3, q3⟩
noncomputable def tChain (r r' : R2) (ta tb tc : TE) : TE := fun σ H Q => ta σ H fun x H1 => tb σ H1 fun y H2 => r x y H2 fun z H3 => ∃ k, z = .bl k ∧
  (if k = true then tc σ H3 fun w' H4 => r' y w' H4 Q else Q (.bl false) H3)
theorem pe_chain {op op' : CmpOp} {r r' : R2} (ho : OpR X (compareOp op) r) (ho' : OpR X (compareOp op') r') (ha : PE X a ta) (hb : PE X b tb) (hc : PE X c tc)
    (hm : lastMarks [op, op'] [b, c] = false := by with_unfolding_all rfl) : PE X (.Compare a [op, op'] [b, c] pos) (tChain r r' ta tb tc) := by
  intro pins s σ H Q I h
  refine Compare_chain (thn (ha pins s σ H _ I h) fun v s1 ⟨x, H1, I1, r1, q1⟩ => chain_link (thn (hb pins s1 σ H1 _ I1 q1) fun u s2 ⟨y, H2, I2, r2, q2⟩ =>
    thn (ho pins s2 σ H2 x y v u _ I2 r1 r2 q2) fun d s3 ⟨z, H3, I3, r3, k, e, q3⟩ => ?_)) hm
  subst e
  cases r3
  refine wpAny_truthy_bool ?_
  cases k with
  | false => exact ite_ff ⟨.bl false, H3, I3, rfl, q3⟩
  | true => exact ite_tt (chain_last (thn (hc pins s3 σ H3 _ I3 q3) fun w' s4 ⟨z', H4, I4, r4, q4⟩ => ho' pins s4 σ H4 y z' u w' Q I4 r2 r4 q4))
theorem pt_chain {op op' : CmpOp} {r r' : R2} (ho : OpR X (compareOp op) r) (ho' : OpR X (compareOp op') r') (ha : PE X a ta) (hb : PE X b tb) (hc : PE X c tc)
    (hm : lastMarks [op, op'] [b, c] = false := by with_unfolding_all rfl) : PT X (.Compare a [op, op'] [b, c] pos) (tTest (tChain r r' ta tb tc)) := by
  intro pins s σ H Q I h
  refine isTrue_chain (thn (ha pins s σ H _ I h) fun v s1 ⟨x, H1, I1, r1, q1⟩ => test_link (thn (hb pins s1 σ H1 _ I1 q1) fun u s2 ⟨y, H2, I2, r2, q2⟩ =>
    thn (ho pins s2 σ H2 x y v u _ I2 r1 r2 q2) fun d s3 ⟨z, H3, I3, r3, k, e, q3⟩ => ?_)) hm
  subst e
  cases r3
  refine wpAny_truthy_bool ?_
  cases k with
  | false =>
    obtain ⟨k', e', q'⟩ := q3
    cases e'
    exact ite_ff ⟨H3, I3, q'⟩
  | true =>
    refine ite_tt (test_last (thn (hc pins s3 σ H3 _ I3 q3) fun w' s4 ⟨z', H4, I4, r4, q4⟩ => thn (ho' pins s4 σ H4 y z' u w' _ I4 r2 r4 q4) fun d' s5 ⟨z2, H5, I5, r5, k2, e2, q5⟩ => ?_))
    subst e2
    cases r5
    exact wpAny_truthy_bool ⟨H5, I5, q5⟩

theorem line63 : (sizeLine : Nat) < 2 ^ 63 := by rw [sizeLine_eq]; decide
theorem vals1 {x : V} {us : List Value} (r : Vals [x] us) : ∃ u, us = [u] ∧ RelV x u := by
  cases r with
  | cons r1 r2 => cases r2; exact ⟨_, rfl, r1⟩
theorem vals2 {x y : V} {us : List Value} (r : Vals [x, y] us) : ∃ u w', us = [u, w'] ∧ RelV x u ∧ RelV y w' := by
  cases r with
  | cons r1 r2 =>
    cases r2 with
    | cons r3 r4 => cases r4; exact ⟨_, _, rfl, r1, r3⟩
theorem call_abs : CallR X (.builtin "abs") (fun xs H Q => ∃ i, xs = [.int i] ∧ Q (.int (if i < 0 then -i else i)) H) := by
  intro pins s σ H xs us Q I r h
  obtain ⟨i, rfl, q⟩ := h
  obtain ⟨u, rfl, t, rfl⟩ := vals1 r
  exact call_abs_int fun u tk => ⟨.int (if i < 0 then -i else i), H, I.tok _, ⟨_, rfl⟩, q⟩
theorem call_max2 (hc : X.calm = true) : CallR X (.builtin "max") (fun xs H Q => ∃ i j, xs = [.int i, .int j] ∧ Q (.int (if j > i then j else i)) H) := by
  intro pins s σ H xs us Q I r h
  obtain ⟨i, j, rfl, q⟩ := h
  obtain ⟨u, w', rfl, ⟨t, rfl⟩, ⟨t', rfl⟩⟩ := vals2 r
  refine max_two_ints (I.ok.hd hc) fun h' tk k => ⟨_, H, I.kept k, ?_, q⟩
  by_cases hj : j > i
  · rw [if_pos hj, if_pos hj]; exact ⟨_, rfl⟩
  · rw [if_neg hj, if_neg hj]; exact ⟨_, rfl⟩
end
end L2
namespace L2
open PySem PySem.Spec PyProof.Rows
structure ObjM (h : Heap) (x dx C : Addr) (mA : Str → Option Value) : Prop where
  obj : h.get? x = some (PySem.W.instObj C dx)
  ns : h.Ns1 dx mA
  ne : dx ≠ x

theorem lookIn_ns {h : Heap} {dx : Addr} {mA : Str → Option Value} (n : h.Ns1 dx mA) : ∃ od, h.get? dx = some od ∧ ∀ name, PySem.W.lookIn name od = some (mA name) := by
  obtain ⟨o, es, ep, ho, hd, hk, _, hm⟩ := n
  refine ⟨o, ho, fun name => ?_⟩
  have e := hm name
  unfold nsFind findBy at e
  rw [← Array.find?_toList] at e
  unfold PySem.W.lookIn
  rw [hd]
  dsimp only
  split
  · rename_i y q
    rw [q] at e
    exact congrArg some e
  · rename_i q
    rw [q] at e
    have a : es.toList.any (·.refKey) = false := by
      rw [List.any_eq_false]
      intro y hy
      obtain ⟨z, t, hkey⟩ := hk y (Array.mem_toList_iff.mp hy)
      simp [DictEntry.refKey, hkey]
    have a' : ¬ es.toList.any (·.refKey) = true := by rw [a]; exact Bool.false_ne_true
    rw [if_neg a']
    exact congrArg some e

theorem ObjM.look {h : Heap} {x dx C : Addr} {mA : Str → Option Value} (I : ObjM h x dx C mA) : ∃ od, PySem.W.InstAt h x (PySem.W.instObj C dx) C (some od) ∧ ∀ name, PySem.W.lookIn name od = some (mA name) :=
  let ⟨od, ho, hl⟩ := lookIn_ns I.ns
  ⟨od, ⟨I.obj, rfl, rfl, ho⟩, hl⟩

section
variable {prog : Program} {w : World} {A : Around} {E : Value → Shared → Prop} {s : Shared} {K : PySem.W.Frag} {x dx C f : Addr} {mA : Str → Option Value} {name : Str} {v : Value}
theorem get_map {expr : Bool} {Q : Value → Shared → Prop} (X : K.In s.heap) (I : ObjM s.heap x dx C mA) (hg : PySem.W.plainGet K C name = true) (hh : PySem.W.hasDictIn K C = true)
    (ha : PySem.W.findIn K (.ref C) name = some none) (hv : mA name = some v) (hv' : PySem.W.handedIn v = true) (h : Q v { s with toks := s.toks + 1 }) :
    wpAny (model prog w) A (getAttr (.ref x) name expr) Q E s := by
  obtain ⟨od, J, hl⟩ := I.look
  exact PySem.W.get_value X J (PySem.W.plainGet_of hg).1 (PySem.W.findObj_own hh ha rfl (by rw [hl, hv])) hv' h

theorem set_map {ns : List Str} {Q : Unit → Shared → Prop} (X : K.In s.heap) (I : ObjM s.heap x dx C mA)
    (hs : PySem.W.findIn K (.ref C) "__setattr__" = some (some (.builtin "object.__setattr__"))) (hp : PySem.W.plainOver K C = true) (ht : PySem.W.takerIn K C name = some none) (hh : PySem.W.hasDictIn K C = true)
    (hw : PySem.Within mA ns) (hsz : ns.length ≤ sizeLine)
    (h : ∀ h', ObjM h' x dx C (fun y => if y = name then some v else mA y) → Heap.SameBut dx s.heap h' → Q () { s with heap := h', toks := s.toks + 2 }) :
    wpAny (model prog w) A (setAttr (.ref x) name v) Q E s := by
  obtain ⟨od, J, hl⟩ := I.look
  refine PySem.W.set_plain X J hs (PySem.W.osa_open (s := { s with toks := s.toks + 1 }) (r := none) X J hp ht fun b => ?_)
  obtain ⟨cd, hc, hd'⟩ := PySem.W.any_some hh
  have hx : s.heap.get? x = some ⟨.ref C, some dx, .plain, #[]⟩ := I.obj
  refine wpAny_bind (wpAny_pure (wpAny_bind (wpAny_bind (wpAny_loadPart hx (wpAny_bind (PySem.W.Looks.here (s := { s with toks := s.toks + 1 }) (PySem.W.looks_clsIn X hc) ?_))))))
  rw [hd']
  refine wpAny_pure (a := some dx) (wpAny_bind (wpAny_pure (wpAny_bind ?_)))
  refine wpAny_nsSet1 (s := { s with toks := s.toks + 1 }) I.ns fun h' hn2 hs2 => ?_
  obtain ⟨oD, esD, epD, hoD, hdD, hcD⟩ := hn2.count (PySem.Within.cons name v hw)
  refine wpAny_bind (wpAny_lookBehind hoD (by rw [hdD]; exact pastItsLine_dict (Nat.le_trans hcD (by rw [List.length_cons]; omega))) ?_)
  exact wpAny_pure (h _ ⟨(hs2.2 _ (Ne.symm I.ne)).trans I.obj, hn2, I.ne⟩ hs2)

theorem make_map {R : Result → Shared → Prop} {vs : List Value} {kw : List (Str × Value)} (X : K.In s.heap) (hm : PySem.W.makesIn K C = true)
    (hi : PySem.W.findIn K (.ref C) "__init__" = some (some (.ref f))) (hf : PySem.W.typeIn K (.ref f) = some (.type "function"))
    (h : codeAny (model prog w) (A.under (.builtin "type.__call__" ⟨.ref C :: vs, kw⟩)) (.call (.ref f) ⟨.ref (s.heap.objs.size + 1) :: vs, kw⟩) (PySem.W.InitBack (s.heap.objs.size + 1) R)
      { s with heap := (s.heap.push PySem.W.emptyDict).push (PySem.W.instObj C s.heap.objs.size) }) :
    codeAny (model prog w) A (.call (.ref C) ⟨vs, kw⟩) R s := by
  obtain ⟨hh, g, d, t, os⟩ := s
  exact PySem.W.make_core (PySem.W.makes_of X hm) (PySem.W.looks_findIn X hi) (fun self => PySem.W.bind_fn X self hf) (.inl rfl) h
end
noncomputable def putF (f : Str) (v : V) : List (Str × V) → List (Str × V)
  | [] => [(f, v)]
  | (g, x) :: r => if g = f then (g, v) :: r else (g, x) :: putF f v r
theorem lookup_putF (f g : Str) (v : V) : ∀ fs : List (Str × V), (putF f v fs).lookup g = if g = f then some v else fs.lookup g
  | [] => by
    show List.lookup g [(f, v)] = _
    by_cases h : g = f
    · have hb : (g == f) = true := beq_iff_eq.mpr h
      simp only [List.lookup, hb, if_pos h]
    · have hb : (g == f) = false := beq_eq_false_iff_ne.mpr h
      simp only [List.lookup, hb, if_neg h]
  | (k, x) :: r => by
    have ih := lookup_putF f g v r
    rw [show putF f v ((k, x) :: r) = (if k = f then (k, v) :: r else (k, x) :: putF f v r) from rfl]
    by_cases hk : k = f
    · rw [if_pos hk]
      by_cases h : g = k
      · have hb : (g == k) = true := beq_iff_eq.mpr h
        simp only [List.lookup, hb, if_pos (h.trans hk)]
      · have hb : (g == k) = false := beq_eq_false_iff_ne.mpr h
        simp only [List.lookup, hb, if_neg (fun e : g = f => h (e.trans hk.symm))]
    · rw [if_neg hk]
      by_cases h : g = k
      · have hb : (g == k) = true := beq_iff_eq.mpr h
        simp only [List.lookup, hb, if_neg (fun e : g = f => hk (h.symm.trans e))]
      · have hb : (g == k) = false := beq_eq_false_iff_ne.mpr h
        simp only [List.lookup, hb]
        exact ih
theorem keys_putF (f : Str) (v : V) : ∀ fs : List (Str × V), f ∈ (putF f v fs).map (·.1) ∧ ∀ g, g ∈ fs.map (·.1) → g ∈ (putF f v fs).map (·.1)
  | [] => ⟨by simp [putF], fun g h => by simp at h⟩
  | (k, x) :: r => by
    obtain ⟨i1, i2⟩ := keys_putF f v r
    rw [show putF f v ((k, x) :: r) = (if k = f then (k, v) :: r else (k, x) :: putF f v r) from rfl]
    by_cases hk : k = f
    · rw [if_pos hk]
      subst hk
      exact ⟨by simp, fun g h => by simpa using h⟩
    · rw [if_neg hk]
      refine ⟨?_, fun g h => ?_⟩
      · rw [List.map_cons]
        exact List.mem_cons_of_mem _ i1
      · rw [List.map_cons] at h ⊢
        rcases List.mem_cons.mp h with e | e
        · exact List.mem_cons.mpr (.inl e)
        · exact List.mem_cons_of_mem _ (i2 g e)
theorem length_putF (f : Str) (v : V) : ∀ fs : List (Str × V), (putF f v fs).length ≤ fs.length + 1
  | [] => by simp [putF]
  | (k, x) :: r => by
    have ih := length_putF f v r
    rw [show putF f v ((k, x) :: r) = (if k = f then (k, v) :: r else (k, x) :: putF f v r) from rfl]
    by_cases hk : k = f
    · rw [if_pos hk, List.length_cons, List.length_cons]; omega
    · rw [if_neg hk, List.length_cons, List.length_cons]; omega

theorem RelO.some_of {v : V} {o : Option Value} (r : RelO (some v) o) : ∃ u, o = some u ∧ RelV v u := by
  cases o with
  | none => exact (show False from r).elim
  | some u => exact ⟨u, rfl, r⟩
theorem handed_of {v : V} {u : Value} (r : RelV v u) : PySem.W.handedIn u = true := by
  cases v with
  | non => cases (show u = Value.none from r); rfl
  | bl b => cases (show u = Value.bool b from r); rfl
  | int i => obtain ⟨t, e⟩ := (show ∃ t, u = Value.int i t from r); cases e; rfl
  | str x => obtain ⟨t, e⟩ := (show ∃ t, u = Value.str x t from r); cases e; rfl
  | byt b => obtain ⟨t, e⟩ := (show ∃ t, u = Value.bytes b t from r); cases e; rfl
  | flt b => obtain ⟨t, e⟩ := (show ∃ t, u = Value.float b t from r); cases e; rfl
  | ref a => cases (show u = Value.ref a from r); rfl
  | ty n => cases (show u = Value.type n from r); rfl

section
variable {P : Program} {w : World} {H H' : Hp} {h h' : Heap} {a C dx : Addr} {fs fs' : List (Str × V)}
theorem ins_get (hok : HOk P w H h) (e : H a = some (.ins C dx fs)) : ∃ mA, ObjM h a dx C mA ∧ (∀ f, RelO (fs.lookup f) (mA f)) ∧ PySem.Within mA (fs.map (·.1)) ∧ fs.length ≤ 1000 ∧ H dx = some (.own a) := by
  obtain ⟨d, z, ne, ob, mA, n, r, q⟩ := (show ObjOk P w H h a (.ins C dx fs) from hok a _ e)
  exact ⟨mA, ⟨ob, n, ne⟩, r, q, z, d⟩
end
structure Cls (K : PySem.W.Frag) (C : Addr) : Prop where
  pg : PySem.W.plainGet K C Str.empty = true
  hd : PySem.W.hasDictIn K C = true
  po : PySem.W.plainOver K C = true
  sa : PySem.W.findIn K (.ref C) "__setattr__" = some (some (.builtin "object.__setattr__"))
theorem Cls.get {K : PySem.W.Frag} {C : Addr} (c : Cls K C) (f : Str) : PySem.W.plainGet K C f = true := c.pg
noncomputable def NoAttr (K : PySem.W.Frag) (C : Addr) (f : Str) : Prop := PySem.W.findIn K (.ref C) f = some none
theorem NoAttr.taker {K : PySem.W.Frag} {C : Addr} {f : Str} (n : NoAttr K C f) : PySem.W.takerIn K C f = some none := by
  unfold PySem.W.takerIn
  rw [show PySem.W.findIn K (.ref C) f = some none from n]
  rfl
section
variable {X : Cx} {pins : List (Addr × Obj)} {σ : St} {H : Hp} {s : Shared} {a C dx : Addr} {fs : List (Str × V)} {f : Str} {v : V} {A : Around} {E : Value → Shared → Prop}
theorem getattr_ok {b : Bool} {Q : Value → Shared → Prop} (I : Inv X pins σ H s) (e : H a = some (.ins C dx fs)) (c : Cls X.K C) (n : NoAttr X.K C f) (l : fs.lookup f = some v)
    (h : ∀ u s', Inv X pins σ H s' → RelV v u → Q u s') : wpAny (model X.prog X.w) A (getAttr (.ref a) f b) Q E s := by
  obtain ⟨mA, O, r, _, _, _⟩ := ins_get I.hok e
  obtain ⟨u, hu, ru⟩ := RelO.some_of (v := v) (o := mA f) (by rw [← l]; exact r f)
  exact get_map I.kIn O (c.get f) c.hd n hu (handed_of ru) (h u _ (I.tok _) ru)

theorem setattr_ok {y : V} {u : Value} {Q : Unit → Shared → Prop} (I : Inv X pins σ H s) (e : H a = some (.ins C dx fs)) (c : Cls X.K C) (n : NoAttr X.K C f) (hl : fs.length < 1000) (ry : RelV y u)
    (h : ∀ s', Inv X pins σ (upd H a (.ins C dx (putF f y fs))) s' → Q () s') : wpAny (model X.prog X.w) A (setAttr (.ref a) f u) Q E s := by
  obtain ⟨mA, O, r, wi, _, ho⟩ := ins_get I.hok e
  have hz : (fs.map (·.1)).length ≤ sizeLine := by rw [List.length_map, sizeLine_eq]; omega
  refine set_map I.kIn O c.sa c.po n.taker c.hd wi hz fun h' O' sb => h _ ?_
  have hd : ∃ o, h'.get? dx = some o := let ⟨o, _, _, e', _⟩ := O'.ns; ⟨o, e'⟩
  refine I.write (x := a) (e := dx) (by rw [e]; exact True.intro) (.inr ho) (fun b q hb z => (sb.2 b hb).trans z) hd ?_
  refine ⟨by rw [upd_ne O.ne]; exact ho, ?_, O.ne, O'.obj, _, O'.ns, fun g => ?_, fun g hg => ?_⟩
  · have := length_putF f y fs; omega
  · show RelO ((putF f y fs).lookup g) (if g = f then some u else mA g)
    rw [lookup_putF]
    by_cases q : g = f
    · rw [if_pos q, if_pos q]; exact ry
    · rw [if_neg q, if_neg q]; exact r g
  · by_cases q : g = f
    · rw [q]; exact (keys_putF f y fs).1
    · refine (keys_putF f y fs).2 g (wi g fun z => hg ?_)
      show (if g = f then some u else mA g) = none
      rw [if_neg q]; exact z

theorem Inv.made (I : Inv X pins σ H s) : Inv X pins σ (upd (upd H s.heap.objs.size (.own (s.heap.objs.size + 1))) (s.heap.objs.size + 1) (.ins C s.heap.objs.size []))
    { s with heap := (s.heap.push PySem.W.emptyDict).push (PySem.W.instObj C s.heap.objs.size) } := by
  have e1 : (s.heap.push PySem.W.emptyDict).get? s.heap.objs.size = some PySem.W.emptyDict := Heap.get?_push_size s.heap rfl
  have e2 : ((s.heap.push PySem.W.emptyDict).push (PySem.W.instObj C s.heap.objs.size)).get? (s.heap.objs.size + 1) = some (PySem.W.instObj C s.heap.objs.size) := by
    have := Heap.get?_push_size (s.heap.push PySem.W.emptyDict) (o := PySem.W.instObj C s.heap.objs.size) rfl
    rwa [Heap.size_push] at this
  have e3 : (s.heap.push PySem.W.emptyDict).Ns s.heap.objs.size (fun _ => none) := ⟨PySem.W.emptyDict, #[], _, e1, rfl, (fun e he => absurd he (by simp)), fun _ => rfl⟩
  have I1 := I.laid (a := s.heap.objs.size) (o := .own (s.heap.objs.size + 1)) (h' := s.heap.push PySem.W.emptyDict) (t' := s.toks) (fun b u q => Heap.get?_push_of_some _ q) (Nat.le_refl _) ⟨_, e1⟩
  refine I1.laid (a := s.heap.objs.size + 1) (o := .ins C s.heap.objs.size []) (t' := s.toks) (fun b u q => Heap.get?_push_of_some _ q) (Nat.le_of_eq (Heap.size_push _ _)) ?_
  have ne : s.heap.objs.size ≠ s.heap.objs.size + 1 := Nat.ne_of_lt (Nat.lt_succ_self _)
  refine ⟨by rw [upd_ne ne, upd_same], Nat.zero_le _, ne, e2, fun _ => none, (Heap.Ns1.of_empty e3).at fun o q => Heap.get?_push_of_some _ q, fun _ => True.intro, fun y hy => absurd rfl hy⟩

theorem attr_of {prog : Program} {w : World} {env : Env} {e : Expr} {f : Str} {pos : Pos} {s : Shared} {Q : Value → Shared → Prop} (hb : attributeBase e f env (eval e env) = eval e env)
    (h : wpAny (model prog w) A (eval e env) (fun o s₁ => wpAny (model prog w) A (getAttr o f true) Q E s₁) E s) : wpAny (model prog w) A (eval (.Attribute e f pos) env) Q E s :=
  Attribute_any_ h (by rw [arm_eval_Attribute, hb])
end
noncomputable def tFld (K : PySem.W.Frag) (ta : TE) (f : Str) : TE := fun σ H Q => ta σ H fun x H1 => ∃ a C dx fs v, x = .ref a ∧ H1 a = some (.ins C dx fs) ∧ Cls K C ∧ NoAttr K C f ∧ fs.lookup f = some v ∧ Q v H1
noncomputable def sFld (K : PySem.W.Frag) (ta tv : TE) (f : Str) : TS := fun D σ H => tv σ H fun y H1 => ta σ H1 fun x H2 => ∃ a C dx fs, x = .ref a ∧ H2 a = some (.ins C dx fs) ∧ Cls K C ∧ NoAttr K C f ∧ fs.length < 1000 ∧
  D.nx σ (upd H2 a (.ins C dx (putF f y fs)))
section
variable {X : Cx} {o e value : Expr} {f : Str} {pos pos' tpos : Pos} {ta tv : TE}
theorem pe_fld (he : PE X e ta) (hb : attributeBase e f X.env (eval e X.env) = eval e X.env) : PE X (.Attribute e f pos) (tFld X.K ta f) := by
  intro pins s σ H Q I h
  refine attr_of hb (thn (he pins s σ H _ I h) fun u s1 ⟨x, H1, I1, rx, a, C, dx, fs, v, ex, ea, c, n, l, q⟩ => ?_)
  subst ex
  obtain rfl : u = Value.ref a := rx
  exact getattr_ok I1 ea c n l fun u' s2 I2 ru => ⟨v, H1, I2, ru, q⟩
theorem ps_fld (ha : PE X o ta) (hv : PE X value tv) (hs : swapsWith value (some (.Attribute o f pos')) pos.line X.env = pure false) : PS X (.Assign [.Attribute o f pos'] value pos) (sFld X.K ta tv f) := by
  intro pins s σ H D I h
  refine plainObj_wpAny_Assign_Attribute (thn (hv pins s σ H _ I h) fun u s1 ⟨y, H1, I1, ry, q⟩ => thn (ha pins s1 σ H1 _ I1 q) fun ov s2 ⟨x, H2, I2, rx, a, C, dx, fs, ex, ea, c, n, l, q2⟩ => ?_) hs
  subst ex
  obtain rfl : ov = Value.ref a := rx
  exact setattr_ok I2 ea c n l ry fun s3 I3 => ⟨σ, _, I3, q2⟩
end
section
variable {X : Cx} {pins : List (Addr × Obj)} {σ : St} {H : Hp} {s : Shared} {A : Around} {E : Value → Shared → Prop} {Q : Value → Shared → Prop} {c : Value} {b : Bool}
end
end L2
namespace L2
open PySem PySem.Spec PyProof.Rows
structure Room (k : Nat) (A : Around) : Prop where
  hd : A.handled = none
  dp : A.depth + 3 * k + 5 < recursionLimit
  un : A.units + 16 * k + 200 < cLine
theorem Room.mono {j k : Nat} {A : Around} (r : Room k A) (h : j ≤ k) : Room j A := ⟨r.hd, by have := r.dp; omega, by have := r.un; omega⟩
theorem Room.deeper {k : Nat} {A : Around} (r : Room (k + 1) A) (env : Env) : Room k (A.deeper env) :=
  ⟨r.hd, by have := r.dp; show A.depth + 1 + 3 * k + 5 < _; omega, by have := r.un; show A.units + 3 + 16 * k + 200 < _; omega⟩
theorem Room.in1 {k : Nat} {A : Around} (r : Room (k + 1) A) : Room k A.in1 :=
  ⟨r.hd, by have := r.dp; show A.depth + 3 * k + 5 < _; omega, by have := r.un; show A.units + 1 + 16 * k + 200 < _; omega⟩
theorem make_depth {A : Around} {C : Addr} {us : List Value} {kw : List (Str × Value)} : (A.under (.builtin "type.__call__" ⟨.ref C :: us, kw⟩)).depth = A.depth + 1 := by
  first | rfl | simp [Around.under, Code.weight, Code.isCreation, Code.isGuard, Code.isCaller, Code.frames, Code.isFrame, guardIds]
theorem make_units {A : Around} {C : Addr} {us : List Value} {kw : List (Str × Value)} : (A.under (.builtin "type.__call__" ⟨.ref C :: us, kw⟩)).units = A.units + 1 := by
  first | rfl | simp [Around.under, Code.cUnits, Code.frames, Code.isFrame]
theorem Room.make {k : Nat} {A : Around} (r : Room (k + 1) A) (C : Addr) (us : List Value) (kw : List (Str × Value)) : Room k (A.under (.builtin "type.__call__" ⟨.ref C :: us, kw⟩)) :=
  ⟨r.hd, by have := r.dp; rw [make_depth]; omega, by have := r.un; rw [make_units]; omega⟩
theorem Room.depth {k : Nat} {A : Around} (r : Room k A) : A.depth < recursionLimit := by have := r.dp; omega
theorem Room.units {k : Nat} {A : Around} (r : Room k A) : A.units + 64 < cLine := by have := r.un; omega
noncomputable def tNil : TA := fun _ H Q => Q [] H
noncomputable def tCons (ta : TE) (tr : TA) : TA := fun σ H Q => ta σ H fun x H1 => tr σ H1 fun xs H2 => Q (x :: xs) H2
section
variable {X : Cx} {e : Expr} {es : List Expr} {te : TE} {t : TA} {pos : Pos}
theorem pa_nil : PA X [] tNil := fun _ _ _ _ H Q I h => Calls.spliced_nil ⟨[], H, I, .nil, h⟩
theorem pa_cons (ha : PE X e te) (hr : PA X es t) (hs : starEach (e :: es) X.env = (false, eval e X.env) :: starEach es X.env := by rfl) : PA X (e :: es) (tCons te t) := by
  intro pos pins s σ H Q I h
  rw [hs]
  show wpAny _ _ (spliced ((false, eval e X.env) :: backTo pos (starEach es X.env))) _ _ s
  refine Calls.spliced_cons (thn (ha pins s σ H _ I h) fun u s1 ⟨x, H1, I1, r1, q1⟩ => ?_)
  exact thn (hr pos pins s1 σ H1 _ I1 q1) fun us s2 ⟨xs, H2, I2, r2, q2⟩ => ⟨x :: xs, H2, I2, .cons r1 r2, q2⟩

noncomputable def tTup (t : TA) : TE := fun σ H Q => t σ H fun xs H1 => xs.length ≤ sizeLine ∧ ∀ p, H1 p = none → Q (.ref p) (upd H1 p (.tup xs))
noncomputable def tLst (t : TA) : TE := fun σ H Q => t σ H fun xs H1 => xs.length ≤ sizeLine ∧ ∀ p, H1 p = none → Q (.ref p) (upd H1 p (.lst xs))
theorem pe_tup {x1} (h : PA X es t) : PE X (.Tuple es x1 pos) (tTup t) := by
  intro pins s σ H Q I hq
  refine wpAny_Tuple_spliced (thn (h pos pins s σ H _ I hq) fun us s1 ⟨xs, H1, I1, r, z, q⟩ => ⟨by rw [← r.length]; exact z, ?_⟩)
  have hf : H1 s1.heap.objs.size = none := I1.hok.fresh (Nat.le_refl _)
  refine ⟨.ref s1.heap.objs.size, upd H1 s1.heap.objs.size (.tup xs), I1.laid (t' := s1.toks) (fun b u e => Heap.get?_push_of_some _ e) (Nat.le_refl _) ?_, rfl, q _ hf⟩
  exact ⟨z, us, r, ⟨_, Heap.get?_push_size _ rfl, rfl, _, rfl⟩⟩
theorem pe_lst (h : PA X es t) : PE X (.List es pos) (tLst t) := by
  intro pins s σ H Q I hq
  refine wpAny_List_spliced (thn (h pos pins s σ H _ I hq) fun us s1 ⟨xs, H1, I1, r, z, q⟩ => ⟨by rw [← r.length]; exact z, ?_⟩)
  have hf : H1 s1.heap.objs.size = none := I1.hok.fresh (Nat.le_refl _)
  refine ⟨.ref s1.heap.objs.size, upd H1 s1.heap.objs.size (.lst xs), I1.laid (t' := s1.toks) (fun b u e => Heap.get?_push_of_some _ e) (Nat.le_refl _) ?_, rfl, q _ hf⟩
  exact ⟨z, us, 0, r, Heap.get?_push_size _ rfl⟩
end
noncomputable abbrev Sp := List V → Hp → VK → XK → Prop
noncomputable abbrev CXT := List Env → Hp → Shared → XK → Value → Shared → Prop

structure Env0 (P : Program) (w : World) (K : PySem.W.Frag) (mg : Str → Option Value) (base : Heap) (A : Around) (outer : List Env) (s : Shared) (H : Hp) : Prop where
  frames : A.frames = some outer
  mod : Mod K mg base
  bs : ∀ b o, base.get? b = some o → s.heap.get? b = some o ∧ H b = none
  bsz : base.objs.size ≤ s.heap.objs.size
  funs : s.heap.FunFrames base outer
  frf : ∀ b ∈ frs outer, H b = none
  hok : HOk P w H s.heap
  bare : AllBare s.gens
noncomputable def CE (outer : List Env) (P : Program) (w : World) (H : Hp) (s : Shared) (Q : VK) (u : Value) (s' : Shared) : Prop :=
  ∃ v H', s'.os = s.os ∧ AllBare s'.gens ∧ Un (frs outer) [] H H' s.heap s'.heap ∧ HOk P w H' s'.heap ∧ RelV v u ∧ Q v H'
noncomputable def CR (CX : CXT) (outer : List Env) (P : Program) (w : World) (H : Hp) (s : Shared) (Q : VK) (E : XK) (r : Result) (s' : Shared) : Prop :=
  match r with
  | .ok (.ret u) => CE outer P w H s Q u s'
  | .ok _ => False
  | .error e => CX outer H s E e s'
structure FnOk (P : Program) (w : World) (K : PySem.W.Frag) (mg : Str → Option Value) (base : Heap) (CX : CXT) (k : Nat) (f : Addr) (fd : FuncData) (ps : List Str) (sp : Sp) : Prop where
  len : ∀ vs H Q E, sp vs H Q E → vs.length = ps.length
  run : ∀ (A : Around) (outer : List Env) (s : Shared) (H : Hp) (args : Args) (us : List Value) (vs : List V) (Q : VK) (E : XK), Room k A → Env0 P w K mg base A outer s H → BindsTo s fd args (ps.zip us) → Vals vs us → sp vs H Q E →
    codeAny (model P w) A (.call (.ref f) args) (CR CX outer P w H s Q E) s
theorem FnOk.mono {P : Program} {w : World} {K : PySem.W.Frag} {mg : Str → Option Value} {base : Heap} {CX : CXT} {j k : Nat} {f : Addr} {fd : FuncData} {ps : List Str} {sp : Sp} (F : FnOk P w K mg base CX j f fd ps sp) (h : j ≤ k) :
    FnOk P w K mg base CX k f fd ps sp := ⟨F.len, fun A outer s H args us vs Q E hr => F.run A outer s H args us vs Q E (hr.mono h)⟩
theorem FnOk.imp {P : Program} {w : World} {K : PySem.W.Frag} {mg : Str → Option Value} {base : Heap} {CX : CXT} {k : Nat} {f : Addr} {fd : FuncData} {ps : List Str} {sp sp' : Sp} (F : FnOk P w K mg base CX k f fd ps sp)
    (h : ∀ vs H Q E, sp' vs H Q E → sp vs H Q E) : FnOk P w K mg base CX k f fd ps sp' :=
  ⟨fun vs H Q E q => F.len vs H Q E (h _ _ _ _ q), fun A outer s H args us vs Q E hr he hb hv hs => F.run A outer s H args us vs Q E hr he hb hv (h _ _ _ _ hs)⟩

theorem Env0.make {P : Program} {w : World} {K : PySem.W.Frag} {mg : Str → Option Value} {base : Heap} {A : Around} {outer : List Env} {s : Shared} {H : Hp} (e : Env0 P w K mg base A outer s H) (C : Addr) (us : List Value) (kw : List (Str × Value)) :
    Env0 P w K mg base (A.under (.builtin "type.__call__" ⟨.ref C :: us, kw⟩)) outer s H := ⟨by first | exact e.frames | (simpa [Around.under, Code.envs, Code.isFrame, pushEnvs] using e.frames), e.mod, e.bs, e.bsz, e.funs, e.frf, e.hok, e.bare⟩
theorem Env0.in1 {P : Program} {w : World} {K : PySem.W.Frag} {mg : Str → Option Value} {base : Heap} {A : Around} {outer : List Env} {s : Shared} {H : Hp} (e : Env0 P w K mg base A outer s H) :
    Env0 P w K mg base A.in1 outer s H := ⟨e.frames, e.mod, e.bs, e.bsz, e.funs, e.frf, e.hok, e.bare⟩

section
variable {X : Cx} {pins : List (Addr × Obj)} {σ : St} {H : Hp} {s s' : Shared}
theorem Inv.env0 (I : Inv X pins σ H s) : Env0 X.prog X.w X.K X.mg X.base X.A X.stack s H :=
  ⟨I.ok.frames, I.ok.mod, I.bs, Nat.le_trans I.ok.bsz I.sz, I.stack, I.stkFree, I.hok, I.bare⟩
theorem Inv.after {Q : VK} {u : Value} (I : Inv X pins σ H s) (h : CE X.stack X.prog X.w H s Q u s') : EP X pins σ Q u s' := by
  obtain ⟨v, H', os, bare, un, hok, r, q⟩ := h
  obtain ⟨hh, g, d, t, os'⟩ := s'
  obtain rfl : os' = s.os := os
  exact ⟨v, H', I.call (h' := hh) (g' := g) (d' := d) (t' := t) (ch := []) un hok bare (fun b z => absurd z (by simp)), r, q⟩
end
noncomputable def tCall (sp : Sp) (dvs : List V) (E : XK) (t : TA) : TE := fun σ H Q => t σ H fun vs H1 => sp (vs ++ dvs) H1 Q E
noncomputable def tMake (C : Addr) (sp : Sp) (dvs : List V) (E : XK) (t : TA) : TE := fun σ H Q => t σ H fun vs H1 => ∀ x dx, H1 x = none → H1 dx = none → dx ≠ x →
  sp (.ref x :: (vs ++ dvs)) (upd (upd H1 dx (.own x)) x (.ins C dx [])) (fun v H2 => v = .non ∧ Q (.ref x) H2) E

noncomputable def Binds (K : PySem.W.Frag) (fd : FuncData) (ps : List Str) (ds : List Value) : Prop :=
  ∀ (s : Shared) (us : List Value), K.In s.heap → (us ++ ds).length = ps.length → BindsTo s fd ⟨us, []⟩ (ps.zip (us ++ ds))
theorem Binds.all {K : PySem.W.Frag} {fd : FuncData} {ps : List Str} (h : ∀ us : List Value, us.length = ps.length → bindArgs fd ⟨us, []⟩ = pure (ps.zip us)) : Binds K fd ps [] := fun s us _ hl => by
  rw [List.append_nil] at hl ⊢
  exact .of_eq (h us hl)

noncomputable def Passes (CX : CXT) (X : Cx) (E : XK) : Prop := ∀ (pins : List (Addr × Obj)) (σ : St) (H : Hp) (s : Shared) (e : Value) (s' : Shared), Inv X pins σ H s → CX X.stack H s E e s' → X.xe e s'

section
variable {X : Cx} {CX : CXT} {k : Nat} {f C : Addr} {fd : FuncData} {ps : List Str} {sp : Sp} {dvs : List V} {ds : List Value} {E : XK} {x m : Str} {p pos apos : Pos} {e o : Expr} {es : List Expr} {ta : TE} {t : TA}
theorem run_fn {pins : List (Addr × Obj)} {σ : St} {H : Hp} {s : Shared} {Q : VK} {us : List Value} {vs : List V} (F : FnOk X.prog X.w X.K X.mg X.base CX k f fd ps sp) (hr : Room k X.A) (hb : Binds X.K fd ps ds) (hd : Vals dvs ds) (hx : Passes CX X E)
    (I : Inv X pins σ H s) (r : Vals vs us) (h : sp (vs ++ dvs) H Q E) : wpAny (model X.prog X.w) X.A (call (.ref f) us) (EP X pins σ Q) X.xe s := by
  have r2 : Vals (vs ++ dvs) (us ++ ds) := r.append hd
  have hl : (us ++ ds).length = ps.length := by rw [← r2.length]; exact F.len _ _ _ _ h
  refine wpAny_call (codeAny_mono (F.run X.A X.stack s H ⟨us, []⟩ (us ++ ds) (vs ++ dvs) Q E hr I.env0 (hb s us I.kIn hl) r2 h) fun r s' hq => ?_)
  cases r with
  | error e => exact hx pins σ H s e s' I hq
  | ok fl =>
    cases fl with
    | ret u => exact I.after hq
    | next => exact False.elim hq
    | brk => exact False.elim hq
    | cont => exact False.elim hq

theorem pe_call (F : FnOk X.prog X.w X.K X.mg X.base CX k f fd ps sp) (hr : Room k X.A) (hg : Gl X x) (hm : X.mg x = some (.ref f)) (hk : PySem.W.keepIn X.K (.ref f) = true) (hb : Binds X.K fd ps ds) (hd : Vals dvs ds) (hx : Passes CX X E)
    (ha : PA X (e :: es) t) (hdb : (x == ("__debug__" : Str)) = false := by decide) (he : starEach (e :: es) X.env = (false, eval e X.env) :: starEach es X.env := by rfl) (hpl : (backTo pos (starEach es X.env)).any (·.1) = false := by rfl) :
    PE X (.Call (.Name x p) (e :: es) [] pos) (tCall sp dvs E t) := by
  intro pins s σ H Q I h
  refine wpAny_Call_Name_kw (ld_glob I hg hm ?_ hdb)
  refine PySem.W.callWith_K (h₀ := X.base) I.ok.mod.kin hk (thn (ha pos pins s σ H _ I h) fun us s1 ⟨vs, H1, I1, r, q⟩ => ⟨I1.kIn, ?_⟩) he hpl
  exact run_fn F hr hb hd hx I1 r q
structure Mk (K : PySem.W.Frag) (C f : Addr) : Prop where
  makes : PySem.W.makesIn K C = true
  init : PySem.W.findIn K (.ref C) "__init__" = some (some (.ref f))
  fn : PySem.W.isFn K (.ref f) = true
  kp : PySem.W.keepIn K (.ref C) = true

theorem run_make {pins : List (Addr × Obj)} {σ : St} {H : Hp} {s : Shared} {Q : VK} {us : List Value} {vs : List V} (M : Mk X.K C f) (F : FnOk X.prog X.w X.K X.mg X.base CX k f fd ps sp) (hr : Room (k + 1) X.A) (hb : Binds X.K fd ps ds) (hd : Vals dvs ds)
    (hx : Passes CX X E) (I : Inv X pins σ H s) (r : Vals vs us)
    (h : ∀ x dx, H x = none → H dx = none → dx ≠ x → sp (.ref x :: (vs ++ dvs)) (upd (upd H dx (.own x)) x (.ins C dx [])) (fun v H2 => v = .non ∧ Q (.ref x) H2) E) :
    wpAny (model X.prog X.w) X.A (call (.ref C) us) (EP X pins σ Q) X.xe s := by
  have hq := h (s.heap.objs.size + 1) s.heap.objs.size (I.hok.fresh (Nat.le_succ _)) (I.hok.fresh (Nat.le_refl _)) (Nat.ne_of_lt (Nat.lt_succ_self _))
  have I2 := Inv.made (C := C) I
  have r2 : Vals (V.ref (s.heap.objs.size + 1) :: (vs ++ dvs)) (Value.ref (s.heap.objs.size + 1) :: (us ++ ds)) := .cons rfl (r.append hd)
  have hl : (Value.ref (s.heap.objs.size + 1) :: us ++ ds).length = ps.length := by
    have e := r2.length
    rw [F.len _ _ _ _ hq] at e
    exact e.symm
  refine wpAny_call (make_map (f := f) I.kIn M.makes M.init (beq_iff_eq.mp M.fn) (codeAny_mono (F.run _ X.stack _ _ ⟨Value.ref (s.heap.objs.size + 1) :: us, []⟩ (Value.ref (s.heap.objs.size + 1) :: (us ++ ds)) _ _ E (hr.make C us [])
    (I2.env0.make C us []) (hb _ (Value.ref (s.heap.objs.size + 1) :: us) I2.kIn hl) r2 hq) fun r s' hq' => ?_))
  cases r with
  | error e => exact hx pins σ _ _ e s' I2 hq'
  | ok fl =>
    cases fl with
    | ret u =>
      obtain ⟨v, H', I3, rv, ev, q3⟩ := I2.after hq'
      subst ev
      exact ⟨rv, ⟨V.ref (s.heap.objs.size + 1), H', I3, rfl, q3⟩⟩
    | next => exact False.elim hq'
    | brk => exact False.elim hq'
    | cont => exact False.elim hq'
theorem pe_make (M : Mk X.K C f) (F : FnOk X.prog X.w X.K X.mg X.base CX k f fd ps sp) (hr : Room (k + 1) X.A) (hg : Gl X x) (hm : X.mg x = some (.ref C)) (hb : Binds X.K fd ps ds) (hd : Vals dvs ds) (hx : Passes CX X E)
    (ha : PA X (e :: es) t) (hdb : (x == ("__debug__" : Str)) = false := by decide) (he : starEach (e :: es) X.env = (false, eval e X.env) :: starEach es X.env := by rfl) (hpl : (backTo pos (starEach es X.env)).any (·.1) = false := by rfl) :
    PE X (.Call (.Name x p) (e :: es) [] pos) (tMake C sp dvs E t) := by
  intro pins s σ H Q I h
  refine wpAny_Call_Name_kw (ld_glob I hg hm ?_ hdb)
  refine PySem.W.callWith_K (h₀ := X.base) I.ok.mod.kin M.kp (thn (ha pos pins s σ H _ I h) fun us s1 ⟨vs, H1, I1, r, q⟩ => ⟨I1.kIn, ?_⟩) he hpl
  exact run_make M F hr hb hd hx I1 r q
end
section
variable {X : Cx} {CX : CXT} {k : Nat} {f C : Addr} {fd : FuncData} {ps ks : List Str} {sp : Sp} {E : XK} {x m : Str} {p pos apos kpos : Pos} {e o : Expr} {es : List Expr} {kws : List Keyword} {te ta : TE} {t tk : TA} {nm : Option Str}
variable {g : List Value → List Value → List Value} {gV : List V → List V → List V}
end
structure FnScope (N P : List Str) (sc : Scope) : Prop where
  kind : sc.kind = .function
  co : sc.isCoroutine = false
  gen : sc.isGenerator = false
  nd : N.Nodup
  pre : N.take P.length = P
  par : ∀ x ∈ P, sc.names.lookup x = some .local ∨ sc.names.lookup x = some .cell
  nofree : ∀ y ∈ sc.names, y.2 ≠ .free

theorem bindL_out {kindOf : Str → Option NameKind} {x : Str} : ∀ {binds : List (Str × Value)} {m : Str → Option Value}, (∀ v, (x, v) ∉ binds) → bindL kindOf binds m x = m x
  | [], _, _ => rfl
  | (n, v) :: r, m, h => by
    unfold bindL
    rw [bindL_out fun w hw => h w (List.mem_cons_of_mem _ hw)]
    split
    · have : x ≠ n := by rintro rfl; exact h v List.mem_cons_self
      simp [this]
    · rfl
theorem bindC_out {kindOf : Str → Option NameKind} {x : Str} : ∀ {binds : List (Str × Value)} {m : Str → Option Value}, (∀ v, (x, v) ∉ binds) → bindC kindOf binds m x = m x
  | [], _, _ => rfl
  | (n, v) :: r, m, h => by
    unfold bindC
    rw [bindC_out fun w hw => h w (List.mem_cons_of_mem _ hw)]
    split
    · rfl
    · have : x ≠ n := by rintro rfl; exact h v List.mem_cons_self
      simp [this]
theorem bindL_get {kindOf : Str → Option NameKind} {x : Str} {v : Value} : ∀ {P : List Str} {vs : List Value} {i : Nat} {m : Str → Option Value}, P.Nodup → P[i]? = some x → vs[i]? = some v → kindOf x = some .local →
    bindL kindOf (P.zip vs) m x = some v
  | [], _, _, _, _, h, _, _ => by simp at h
  | _ :: _, [], _, _, _, _, h, _ => by simp at h
  | p :: P, w :: vs, 0, m, nd, h1, h2, hk => by
    simp at h1 h2; subst h1; subst h2
    show bindL kindOf ((p, w) :: P.zip vs) m p = _
    unfold bindL
    rw [bindL_out fun v hv => (List.nodup_cons.mp nd).1 (List.of_mem_zip hv).1, if_pos hk]
    simp
  | p :: P, w :: vs, i + 1, m, nd, h1, h2, hk => by
    show bindL kindOf ((p, w) :: P.zip vs) m x = _
    unfold bindL
    exact bindL_get (i := i) (List.nodup_cons.mp nd).2 (by simpa using h1) (by simpa using h2) hk
theorem bindC_get {kindOf : Str → Option NameKind} {x : Str} {v : Value} : ∀ {P : List Str} {vs : List Value} {i : Nat} {m : Str → Option Value}, P.Nodup → P[i]? = some x → vs[i]? = some v → kindOf x ≠ some .local →
    bindC kindOf (P.zip vs) m x = some v
  | [], _, _, _, _, h, _, _ => by simp at h
  | _ :: _, [], _, _, _, _, h, _ => by simp at h
  | p :: P, w :: vs, 0, m, nd, h1, h2, hk => by
    simp at h1 h2; subst h1; subst h2
    show bindC kindOf ((p, w) :: P.zip vs) m p = _
    unfold bindC
    rw [bindC_out fun v hv => (List.nodup_cons.mp nd).1 (List.of_mem_zip hv).1, if_neg hk]
    simp
  | p :: P, w :: vs, i + 1, m, nd, h1, h2, hk => by
    show bindC kindOf ((p, w) :: P.zip vs) m x = _
    unfold bindC
    exact bindC_get (i := i) (List.nodup_cons.mp nd).2 (by simpa using h1) (by simpa using h2) hk

noncomputable def start (N : List Str) (vs : List V) : St := vs.map some ++ List.replicate (N.length - vs.length) none

noncomputable def cxOf (CX : CXT) (P : Program) (w : World) (K : PySem.W.Frag) (mg : Str → Option Value) (base : Heap) (N : List Str) (qual : Str) (scope : Scope) (f : Addr) (cd : Value) (A : Around) (outer : List Env) (s : Shared) (H : Hp) (E : XK) : Cx where
  prog := P
  w := w
  K := K
  mg := mg
  base := base
  A := A.deeper (envOfC qual scope s.heap.objs.size f cd)
  N := N
  s_0 := s
  H_0 := H
  env := envOfC qual scope s.heap.objs.size f cd
  outer := outer
  stack := envOfC qual scope s.heap.objs.size f cd :: outer
  ex := []
  calm := true
  fn := fun _ => true
  pn := []
  xe := fun e s' => wpAny (model P w) (A.deeper (envOfC qual scope s.heap.objs.size f cd)) (leaving (envOfC qual scope s.heap.objs.size f cd) e) (fun _ s'' => CX outer H s E e s'') (fun e' s'' => CX outer H s E e' s'') s'

theorem cell_has {sc : Scope} {n : Nat} {x : Str} (h : sc.names.lookup x = some .cell) : ∃ c, (cellsFrom n sc.names []).lookup x = some c := by
  have q := PySem.W.cellsFrom_some sc.names n [] (.inl h)
  exact Option.isSome_iff_exists.mp q

theorem inv_start {CX : CXT} {P : Program} {w : World} {K : PySem.W.Frag} {mg : Str → Option Value} {base : Heap} {N ps : List Str} {qual : Str} {scope : Scope} {f : Addr} {cd : Value} {A : Around} {outer : List Env} {s s1 : Shared} {H : Hp} {E : XK} {us : List Value} {vs : List V}
    (S : FnScope N ps scope) (hd : A.handled = none) (e0 : Env0 P w K mg base A outer s H) (hl : vs.length = ps.length) (r : Vals vs us)
    (x : InCallC s s.heap.objs.size (bindL (envOfC qual scope s.heap.objs.size f cd).kindOf (ps.zip us) fun _ => none) (cellsFrom (s.heap.objs.size + 1) scope.names []) (bindC (envOfC qual scope s.heap.objs.size f cd).kindOf (ps.zip us) fun _ => none) s1) :
    Inv (cxOf CX P w K mg base N qual scope f cd A outer s H E) [] (start N vs) H s1 := by
  have hpl : ps.length ≤ N.length := by have := congrArg List.length S.pre; rw [List.length_take] at this; omega
  obtain ⟨h1, tk, rfl, hk⟩ := x.done
  have noA : ∀ b : Addr, b ∉ (cxOf CX P w K mg base N qual scope f cd A outer s H E).ex := fun b z => absurd (show b ∈ ([] : List Addr) from z) (by simp)
  refine ⟨⟨e0.mod, S.kind, rfl, rfl, Nat.le_refl _, fun y z c h1 h2 => ?_, fun y hy => ?_, fun y c _ h => ?_, fun _ => hd, Around.frames_deeper e0.frames, .inr ⟨rfl, rfl⟩, fun b z => absurd z (noA b), e0.bs, e0.bsz, fun b _ _ => noA b, fun b z => absurd z (noA b), e0.funs, e0.frf⟩,
    rfl, e0.bare, Un.kept hk, ⟨_, x.toInCall.ns, fun i y v h1 h2 h3 => ?_⟩, fun y c h => ⟨_, x.cell y c h⟩, e0.hok.fresh (Nat.le_refl _), fun y c h => ?_, fun p hp => absurd (show p ∈ ([] : List (Addr × Obj)) from hp) (by simp), e0.hok.kept hk, ?_⟩
  · exact name_of_addr x.apart (PySem.mem_of_lookup h1) (PySem.mem_of_lookup h2)
  · have hy : scope.names.lookup y = some .cell ∨ scope.names.lookup y = some .free := hy
    rcases hy with hy | hy
    · exact cell_has hy
    · exact absurd rfl (S.nofree _ (PySem.mem_of_lookup hy))
  · exact Nat.le_of_lt (x.above y c (PySem.mem_of_lookup h))
  · have hi : i < vs.length := by
      unfold start at h2
      by_cases hi : i < vs.length
      · exact hi
      · rw [List.getElem?_append_right (by simpa using hi)] at h2
        rw [List.getElem?_replicate] at h2
        split at h2 <;> cases h2
    have ha : vs[i]? = some v := by
      unfold start at h2
      rw [List.getElem?_append_left (by simpa using hi), List.getElem?_map] at h2
      cases e : vs[i]? with
      | none => rw [e] at h2; cases h2
      | some a => rw [e] at h2; cases h2; rfl
    obtain ⟨u, hu, rv⟩ := r.get ha
    have hp : ps[i]? = some y := by
      rw [← S.pre, List.getElem?_take_of_lt (by omega)]; exact h1
    have ndP : ps.Nodup := by rw [← S.pre]; exact S.nd.sublist (List.take_sublist _ _)
    refine ⟨u, rv, ?_⟩
    rcases S.par y (List.mem_of_getElem? hp) with k | k
    · exact .inl ⟨k, bindL_get ndP hp hu k⟩
    · obtain ⟨c, e⟩ := cell_has (n := s.heap.objs.size + 1) k
      refine .inr ⟨.inl k, c, e, ?_⟩
      have q := x.cell y c e
      rw [bindC_get ndP hp hu (by show scope.names.lookup y ≠ _; rw [k]; decide)] at q
      exact q
  · exact e0.hok.fresh (Nat.le_of_lt (x.above y c (PySem.mem_of_lookup h)))
  · unfold start
    show _ = N.length
    rw [List.length_append, List.length_map, List.length_replicate]
    omega

theorem fn_of {CX : CXT} {P : Program} {w : World} {K : PySem.W.Frag} {mg : Str → Option Value} {base : Heap} {k : Nat} {f : Addr} {name qual : Str} {params : Arguments} {body : List Stmt} {scope : Scope} {dV kV doc pm cdv ct oc : Value} {an od : Option Addr}
    {osl : Array (Option Value)} {N ps : List Str} {sp : Sp} (lk : K.lookup f = some ⟨oc, od, .func (PySem.W.fnOf name qual params body scope dV kV doc pm an cdv ct), osl⟩) (hcd : PySem.W.codeIn K cdv qual = true) (S : FnScope N ps scope)
    (len : ∀ vs H Q E, sp vs H Q E → vs.length = ps.length)
    (hbody : ∀ (A : Around) (outer : List Env) (s : Shared) (H : Hp) (vs : List V) (Q : VK) (E : XK), Room k (A.deeper (envOfC qual scope s.heap.objs.size f cdv)) → sp vs H Q E →
      ∃ t, PSs (cxOf CX P w K mg base N qual scope f cdv A outer s H E) body t ∧ t { nx := fun _ H' => Q .non H', rt := Q } (start N vs) H) :
    FnOk P w K mg base CX (k + 1) f (PySem.W.fnOf name qual params body scope dV kV doc pm an cdv ct) ps sp := by
  refine ⟨len, fun A outer s H args us vs Q E hr e0 hb r hsp => ?_⟩
  have hl := len _ _ _ _ hsp
  have KX : K.In s.heap := e0.mod.kin.keeps fun b o e => (e0.bs b o e).1
  have lim : s.heap.NoLimit := e0.mod.nolimit.keeps fun b o e => (e0.bs b o e).1
  have hkind : ∀ y ∈ ps.zip us, scope.names.lookup y.1 = some .local ∨ (scope.names.lookup y.1 = some .cell ∧ ((cellsFrom (s.heap.objs.size + 1) scope.names []).lookup y.1).isSome = true) := fun ⟨n, v⟩ hy => by
    rcases S.par n (List.of_mem_zip hy).1 with q | q
    · exact .inl q
    · exact .inr ⟨q, PySem.W.cellsFrom_some _ _ _ (.inl q)⟩
  refine codeAny_call_function hr.depth (KX _ _ lk) rfl S.co S.gen rfl (PySem.W.codeRec_of KX hcd) (hb _ _ _ _ ?_)
  refine wpAny_newFunctionEnv_cells S.kind hkind fun env he s1 x => ?_
  subst he
  refine ⟨lim.keeps x.toInCall.keep, codeAny_func ?_⟩
  obtain ⟨t, ht, hq⟩ := hbody A outer s H vs Q E (hr.deeper _) hsp
  have I : Inv (cxOf CX P w K mg base N qual scope f cdv A outer s H E) [] (start N vs) H s1 := inv_start S hr.hd e0 hl r x
  refine wpAny_mono (ht [] s1 (start N vs) H _ I hq) (fun fl s' hs => ?_) fun e s' hs => hs
  have fin : ∀ {σ' : St} {H' : Hp} {v : V} {u : Value}, Inv (cxOf CX P w K mg base N qual scope f cdv A outer s H E) [] σ' H' s' → RelV v u → Q v H' → CE outer P w H s Q u s' :=
    fun {σ' H' v u} J rv q => ⟨v, H', J.os, J.bare, J.base, J.hok, rv, q⟩
  cases fl with
  | ret u =>
    obtain ⟨v, σ', H', J, rv, q⟩ := hs
    exact fin J rv q
  | next =>
    obtain ⟨σ', H', J, q⟩ := hs
    exact fin (v := V.non) (u := Value.none) J rfl q
  | brk =>
    obtain ⟨_, _, _, q⟩ := hs
    exact False.elim q
  | cont =>
    obtain ⟨_, _, _, q⟩ := hs
    exact False.elim q
end L2
namespace L2
open PySem PySem.Spec PyProof.Rows
section
variable {X : Cx} {x : Str} {p pos : Pos} {e : Expr} {es : List Expr} {t : TA} {id T : String} {r : List V → Hp → VK → Prop}
noncomputable def tCB (r : List V → Hp → VK → Prop) (t : TA) : TE := fun σ H Q => t σ H fun vs H1 => r vs H1 Q
theorem pe_callB (hc : CallR X (.builtin id) r) (hg : Gl X x) (hm : X.mg x = none) (hv : bootBuiltins x = some (.builtin id)) (ha : PA X (e :: es) t) (hn : x ≠ "__name__" := by decide) (hdb : (x == ("__debug__" : Str)) = false := by decide)
    (he : starEach (e :: es) X.env = (false, eval e X.env) :: starEach es X.env := by rfl) (hpl : (backTo pos (starEach es X.env)).any (·.1) = false := by rfl) : PE X (.Call (.Name x p) (e :: es) [] pos) (tCB r t) := by
  intro pins s σ H Q I h
  refine wpAny_Call_Name_kw (ld_blt I hg hm hv ?_ hn hdb)
  exact PyProof.Rows.callWith_builtin1 (thn (ha pos pins s σ H _ I h) fun us s1 ⟨vs, H1, I1, r1, q1⟩ => hc pins s1 σ H1 vs us Q I1 r1 q1) he hpl
end
end L2
namespace HT
open PySem PyProof.Rows
section
open PySem.SeqAt
open PySem.AutoSeq1 (wpAny_loadPart')
open PySem.MeetsSeq PySem.MeetsSeq2 PySem.MeetsSeq3
end
section
variable {prog : Program} {w : World} {A : Around} {E : Value → Shared → Prop} {s : Shared}
end
end HT
namespace L2
open PySem PySem.Spec PyProof.Rows
noncomputable abbrev TO := St → Hp → (Option Int → Hp → Prop) → Prop
section
variable {X : Cx} {e : Expr} {te : TE} {lo hi : Option Expr} {tl th : TO} {pos p2 : Pos}
end
end L2
namespace L2
open PySem PySem.Spec PyProof.Rows
noncomputable def ixN (n : Nat) (i : Int) : Option Nat := if 0 ≤ i then (if i < n then some i.toNat else none) else if -(n : Int) ≤ i then some (i + n).toNat else none
noncomputable def atI {α : Type} (xs : List α) (i : Int) : Option α := (ixN xs.length i).bind fun j => xs[j]?
theorem ixN_seq {n : Nat} {i : Int} {j : Nat} (h : ixN n i = some j) : seqIndex? i n = some j ∧ j < n ∧ -(n : Int) ≤ i ∧ i < n := by
  unfold ixN at h
  by_cases h0 : 0 ≤ i
  · rw [if_pos h0] at h
    by_cases h1 : i < n
    · rw [if_pos h1] at h
      have e : i.toNat = j := Option.some.inj h
      exact ⟨by rw [seqIndex_of h0 h1, e], by omega, by omega, h1⟩
    · rw [if_neg h1] at h; cases h
  · rw [if_neg h0] at h
    by_cases h1 : -(n : Int) ≤ i
    · rw [if_pos h1] at h
      have e : (i + n).toNat = j := Option.some.inj h
      exact ⟨by rw [seqIndex_neg (by omega) h1, e], by omega, h1, by omega⟩
    · rw [if_neg h1] at h; cases h
theorem atI_get {α : Type} {xs : List α} {i : Int} {v : α} (h : atI xs i = some v) : ∃ j, seqIndex? i xs.length = some j ∧ xs[j]? = some v ∧ j < xs.length ∧ -(xs.length : Int) ≤ i ∧ i < xs.length := by
  unfold atI at h
  cases e : ixN xs.length i with
  | none => rw [e] at h; cases h
  | some j =>
    rw [e] at h
    obtain ⟨h1, h2, h3, h4⟩ := ixN_seq e
    exact ⟨j, h1, h, h2, h3, h4⟩
theorem atI_nat {α : Type} {xs : List α} {j : Nat} {v : α} (h : xs[j]? = some v) : atI xs (j : Int) = some v := by
  have hj : j < xs.length := (List.getElem?_eq_some_iff.mp h).1
  have e : ixN xs.length (j : Int) = some j := by
    unfold ixN
    rw [if_pos (by omega), if_pos (by omega)]; simp
  unfold atI; rw [e]; exact h
theorem atI_last {α : Type} (xs : List α) (v : α) : atI (xs ++ [v]) (-1) = some v := by
  have hl : (xs ++ [v]).length = xs.length + 1 := by simp
  have e : ixN (xs ++ [v]).length (-1) = some xs.length := by
    unfold ixN
    rw [hl, if_neg (by decide), if_pos (by omega)]
    congr 1
    omega
  unfold atI
  rw [e]
  show (xs ++ [v])[xs.length]? = some v
  simp

noncomputable def PlainIx (b : Expr) : Prop := ∀ o i, subscripted b false o i = operate [o, i] (getItem o i)
noncomputable def IxR (X : Cx) (r : R2) : Prop :=
  ∀ (value slice : Expr) (pins : List (Addr × Obj)) (s : Shared) (σ : St) (H : Hp) (x y : V) (v u : Value) (Q : VK), Inv X pins σ H s → RelV x v → RelV y u → r x y H Q →
    subscripted slice false v u = operate [v, u] (getItem v u) → wpAny (model X.prog X.w) X.A (subscriptTail value slice v u) (EP X pins σ Q) X.xe s
noncomputable def MtR (X : Cx) (id : String) (r : V → List V → Hp → VK → Prop) : Prop :=
  ∀ (pins : List (Addr × Obj)) (s : Shared) (σ : St) (H : Hp) (x : V) (xs : List V) (v : Value) (us : List Value) (Q : VK), Inv X pins σ H s → RelV x v → Vals xs us → r x xs H Q →
    wpAny (model X.prog X.w) X.A (call (.builtin id) (v :: us)) (EP X pins σ Q) X.xe s
section
variable {X : Cx} {a b : Expr} {ta tb : TE} {pos : Pos}
theorem pe_ix {r : R2} (hr : IxR X r) (ha : PE X a ta) (hb : PE X b tb) (hs : PlainIx b) : PE X (.Subscript a b pos) (tOp r ta tb) := by
  intro pins s σ H Q I h
  exact Subscript_ (binT ha hb I h fun v u s2 x y H2 I2 rx ry q => hr a b pins s2 σ H2 x y v u Q I2 rx ry q (hs _ _))

noncomputable def rIxL (K : PySem.W.Frag) : R2 := fun x y H Q => ∃ p xs i v, x = .ref p ∧ y = .int i ∧ SqL K H p xs ∧ atI xs i = some v ∧ Q v H
theorem ix_list : IxR X (rIxL X.K) := by
  intro value slice pins s σ H x y v u Q I rx ry h hs
  obtain ⟨p, xs, i, z, rfl, rfl, hq, he, q⟩ := h
  cases rx
  obtain ⟨t, rfl⟩ := ry
  obtain ⟨its, r, pl, hz⟩ := I.list hq
  obtain ⟨j, h1, h2, h3, h4, h5⟩ := atI_get he
  obtain ⟨w, ew, rw'⟩ := r.get h2
  have hl := r.length
  have hn := line63
  have fin : EP X pins σ Q w s := ⟨z, H, I, rw', q⟩
  by_cases h0 : 0 ≤ i
  · have hj : i.toNat = j := by
      rw [seqIndex_of h0 h5] at h1
      exact Option.some.inj h1
    exact item_listR pl.isList h0 (by omega) (by rw [hj]; simpa using ew) fin hs
  · have hj : (i + (its.toArray.size : Int)).toNat = j := by
      rw [seqIndex_neg (by omega) h4] at h1
      rw [List.size_toArray, ← hl]
      exact Option.some.inj h1
    exact subscriptTail_builtinR (x := w) pl.isList.typeIs slot_list_getitem.lookup
      (wpAny_getItem_list_neg (Q := fun r s' => r = w ∧ EP X pins σ Q r s') pl.isList (by omega) (by rw [List.size_toArray] <;> omega) (by omega) (by rw [hj]; simpa using ew) ⟨rfl, fin⟩) hs
theorem Inv.lst {pins : List (Addr × Obj)} {σ : St} {H : Hp} {s : Shared} {p : Addr} {xs : List V} (I : Inv X pins σ H s) (h : H p = some (.lst xs)) :
    ∃ (its : List Value) (n : Nat), Vals xs its ∧ s.heap.get? p = some { cls := .type "list", data := .seq its.toArray n } ∧ xs.length ≤ sizeLine := by
  obtain ⟨z, its, n, r, e⟩ := I.hok p _ h
  exact ⟨its, n, r, e, z⟩
noncomputable def flatV : V → Bool
  | .non => true
  | .bl _ => true
  | .int _ => true
  | .str _ => true
  | _ => false
noncomputable def eqV : V → V → Bool
  | .non, .non => true
  | .bl a, .bl b => a == b
  | .bl a, .int b => (if a then 1 else 0) == b
  | .int a, .bl b => a == (if b then 1 else 0)
  | .int a, .int b => a == b
  | .str a, .str b => a == b
  | _, _ => false
theorem eqAt_V {A : Around} {s : Shared} {y x : V} {u v : Value} (ry : RelV y u) (rx : RelV x v) (fy : flatV y = true) (fx : flatV x = true) : SeqAt.EqAt A s u v (eqV y x) := by
  cases y with
  | non =>
    cases ry
    cases x with
    | non => cases rx; exact SeqAt.EqAt.same _
    | bl b => cases rx; exact SeqAt.EqAt.none_bool b
    | int b => obtain ⟨t, rfl⟩ := rx; exact SeqAt.EqAt.none_int b t
    | str b => obtain ⟨t, rfl⟩ := rx; exact SeqAt.EqAt.none_str b t
    | _ => exact absurd (show false = true from fx) Bool.false_ne_true
  | bl a =>
    cases ry
    cases x with
    | non => cases rx; exact SeqAt.EqAt.bool_none a
    | bl b => cases rx; exact SeqAt.EqAt.bool_bool a b
    | int b => obtain ⟨t, rfl⟩ := rx; exact SeqAt.EqAt.bool_int a b t
    | str b => obtain ⟨t, rfl⟩ := rx; exact SeqAt.EqAt.bool_str a b t
    | _ => exact absurd (show false = true from fx) Bool.false_ne_true
  | int a =>
    obtain ⟨t', rfl⟩ := ry
    cases x with
    | non => cases rx; exact SeqAt.EqAt.int_none a t'
    | bl b => cases rx; exact SeqAt.EqAt.int_bool a t' b
    | int b => obtain ⟨t, rfl⟩ := rx; exact SeqAt.EqAt.int_int a t' b t
    | str b => obtain ⟨t, rfl⟩ := rx; exact SeqAt.EqAt.int_str a t' b t
    | _ => exact absurd (show false = true from fx) Bool.false_ne_true
  | str a =>
    obtain ⟨t', rfl⟩ := ry
    cases x with
    | non => cases rx; exact SeqAt.EqAt.str_none a t'
    | bl b => cases rx; exact SeqAt.EqAt.str_bool a t' b
    | int b => obtain ⟨t, rfl⟩ := rx; exact SeqAt.EqAt.str_int a t' b t
    | str b => obtain ⟨t, rfl⟩ := rx; exact SeqAt.EqAt.str_str a t' b t
    | _ => exact absurd (show false = true from fx) Bool.false_ne_true
  | _ => exact absurd (show false = true from fy) Bool.false_ne_true
noncomputable def eqU (x : V) (u : Value) : Bool := match u with
  | .none => eqV .non x
  | .bool b => eqV (.bl b) x
  | .int i _ => eqV (.int i) x
  | .str z _ => eqV (.str z) x
  | _ => false
theorem eqU_of {x y : V} {u : Value} (r : RelV y u) (f : flatV y = true) : eqU x u = eqV y x := by
  cases y with
  | non => cases r; rfl
  | bl b => cases r; rfl
  | int i => obtain ⟨t, rfl⟩ := r; rfl
  | str z => obtain ⟨t, rfl⟩ := r; rfl
  | _ => exact absurd (show false = true from f) Bool.false_ne_true
theorem any_eqU {x : V} : ∀ {xs : List V} {us : List Value}, Vals xs us → xs.all flatV = true → us.any (eqU x) = xs.any fun y => eqV y x
  | _, _, .nil, _ => rfl
  | y :: xs, u :: us, .cons r t, f => by
    rw [List.all_cons, Bool.and_eq_true] at f
    rw [List.any_cons, List.any_cons, eqU_of r f.1, any_eqU t f.2]
theorem mem_eqAt {A : Around} {s : Shared} {x : V} {v : Value} (rx : RelV x v) (fx : flatV x = true) : ∀ {xs : List V} {us : List Value}, Vals xs us → xs.all flatV = true → ∀ u ∈ us, SeqAt.EqAt A s u v (eqU x u)
  | _, _, .nil, _ => fun u hu => by cases hu
  | y :: xs, u :: us, .cons r t, f => fun u' hu => by
    rw [List.all_cons, Bool.and_eq_true] at f
    rcases List.mem_cons.mp hu with rfl | hu
    · rw [eqU_of r f.1]; exact eqAt_V r rx f.1 fx
    · exact mem_eqAt rx fx t f.2 u' hu
noncomputable def inV (x : V) (xs : List V) : Bool := xs.any fun y => eqV y x
noncomputable def rIn (K : PySem.W.Frag) (neg : Bool) : R2 := fun x y H Q => ∃ p xs, y = .ref p ∧ (SqL K H p xs ∨ SqT K H p xs) ∧ flatV x = true ∧ xs.all flatV = true ∧ Q (.bl (if neg then !inV x xs else inV x xs)) H
theorem op_in_seq : OpR X (compareOp .In) (rIn X.K false) := by
  intro pins s σ H x y v u Q I rx ry h
  obtain ⟨p, xs, rfl, hq, fx, fs, q⟩ := h
  cases ry
  rcases hq with hq | hq
  · obtain ⟨its, r, pl, hz⟩ := I.list hq
    refine SeqAt.in_listAt (eqU x) pl.isList (fun w hw => mem_eqAt rx fx r fs w (by simpa using hw)) ⟨.bl _, H, I, rfl, ?_⟩
    rw [show its.toArray.any (eqU x) = its.any (eqU x) by simp, any_eqU r fs]
    exact q
  · obtain ⟨its, r, pl, hz⟩ := I.tuple hq
    refine SeqAt.in_tupleAt (eqU x) pl (fun w hw => mem_eqAt rx fx r fs w (by simpa using hw)) ⟨.bl _, H, I, rfl, ?_⟩
    rw [show its.toArray.any (eqU x) = its.any (eqU x) by simp, any_eqU r fs]
    exact q
theorem op_notIn_seq : OpR X (compareOp .NotIn) (rIn X.K true) := by
  intro pins s σ H x y v u Q I rx ry h
  obtain ⟨p, xs, rfl, hq, fx, fs, q⟩ := h
  cases ry
  rcases hq with hq | hq
  · obtain ⟨its, r, pl, hz⟩ := I.list hq
    refine SeqAt.notIn_listAt (eqU x) pl.isList (fun w hw => mem_eqAt rx fx r fs w (by simpa using hw)) ⟨.bl _, H, I, rfl, ?_⟩
    rw [show its.toArray.any (eqU x) = its.any (eqU x) by simp, any_eqU r fs]
    exact q
  · obtain ⟨its, r, pl, hz⟩ := I.tuple hq
    refine SeqAt.notIn_tupleAt (eqU x) pl (fun w hw => mem_eqAt rx fx r fs w (by simpa using hw)) ⟨.bl _, H, I, rfl, ?_⟩
    rw [show its.toArray.any (eqU x) = its.any (eqU x) by simp, any_eqU r fs]
    exact q
theorem call_len_seq : CallR X (.builtin "len") (fun xs H Q => ∃ p ys, xs = [.ref p] ∧ (SqL X.K H p ys ∨ SqT X.K H p ys) ∧ Q (.int ys.length) H) := by
  intro pins s σ H xs us Q I r h
  obtain ⟨p, ys, rfl, hq, q⟩ := h
  obtain ⟨u, rfl, rx⟩ := vals1 r
  cases rx
  have hn := line63
  rcases hq with hq | hq
  · obtain ⟨its, r', pl, hz⟩ := I.list hq
    have hlen := r'.length
    exact Calls.call_len_list pl.isList (by simp only [List.size_toArray] <;> omega) ⟨.int ys.length, H, I.tok _, ⟨s.toks + 1, by rw [List.size_toArray, hlen]⟩, q⟩
  · obtain ⟨its, r', pl, hz⟩ := I.tuple hq
    have hlen := r'.length
    exact len_tuple pl (by simp only [List.size_toArray] <;> omega) ⟨.int ys.length, H, I.tok _, ⟨s.toks + 1, by rw [List.size_toArray, hlen]⟩, q⟩
noncomputable def tyV (K : PySem.W.Frag) (T : String) (x : V) (H : Hp) : Prop := match x with
  | .str _ => T = "str"
  | .int _ => T = "int"
  | .ref p => (T = "list" ∧ ∃ xs, SqL K H p xs) ∨ (T = "tuple" ∧ ∃ o, K.lookup p = some o ∧ o.cls = .type "tuple" ∧ o.dict = none) ∨
      (T = "dict" ∧ ((∃ kvs, H p = some (.dK kvs)) ∨ ∃ kvs, H p = some (.dT kvs))) ∨ (T = "set" ∧ ∃ S n, H p = some (.set S n))
  | _ => False
theorem tyV_is {pins : List (Addr × Obj)} {σ : St} {H : Hp} {s : Shared} {T : String} {x : V} {v : Value} (I : Inv X pins σ H s) (r : RelV x v) (ty : tyV X.K T x H) :
    s.TypeIs v T ∧ ∀ a, v = .ref a → ∃ ob, s.heap.get? a = some ob ∧ ob.dict = none := by
  cases x with
  | str z =>
    obtain ⟨t, rfl⟩ := r
    cases (show T = "str" from ty)
    exact ⟨typeIs_str s z t, fun _ e => nomatch e⟩
  | int i =>
    obtain ⟨t, rfl⟩ := r
    cases (show T = "int" from ty)
    exact ⟨typeIs_int s i t, fun _ e => nomatch e⟩
  | ref p =>
    cases r
    rcases ty with ⟨rfl, xs, hq⟩ | ⟨rfl, o, hk, hc, hd⟩ | ⟨rfl, hk⟩ | ⟨rfl, S, n, hk⟩
    · obtain ⟨its, _, pl, _⟩ := I.list hq
      refine ⟨pl.isList.typeIs, fun a e => ?_⟩
      cases e
      obtain ⟨o, n, e, c, hd, _⟩ := pl
      exact ⟨o, e, hd⟩
    · refine ⟨⟨o, I.kIn p o hk, hc⟩, fun a e => ?_⟩
      cases e
      exact ⟨o, I.kIn _ o hk, hd⟩
    · have z : ∃ o, s.heap.get? p = some o ∧ o.ExactDict := by
        rcases hk with ⟨kvs, hk⟩ | ⟨kvs, hk⟩
        · obtain ⟨_, _, _, _, o, _, _, e, ex, _⟩ := I.hok p _ hk
          exact ⟨o, e, ex⟩
        · obtain ⟨_, _, _, _, o, _, _, e, ex, _⟩ := I.hok p _ hk
          exact ⟨o, e, ex⟩
      obtain ⟨o, e, ex⟩ := z
      refine ⟨⟨o, e, ex.1⟩, fun a e2 => ?_⟩
      cases e2
      exact ⟨o, e, ex.2.1⟩
    · obtain ⟨o, _, _, _, e, ex, _⟩ := I.hok p _ hk
      refine ⟨⟨o, e, ex.1⟩, fun a e2 => ?_⟩
      cases e2
      exact ⟨o, e, ex.2.1⟩
  | _ => exact False.elim ty
noncomputable def tBM0 (K : PySem.W.Frag) (T : String) (r : V → List V → Hp → VK → Prop) (to : TE) : TE := fun σ H Q => to σ H fun x H1 => tyV K T x H1 ∧ r x [] H1 Q
variable {o e : Expr} {es : List Expr} {to : TE} {t : TA} {name : Str} {apos cpos : Pos} {T id : String} {r : V → List V → Hp → VK → Prop}
theorem pe_bm0 (pa : PlainAttrs T) (slot : Slot T name id) (hty : typeOf (.builtin id) = pure (.type "method_descriptor")) (hm : MtR X id r) (ho : PE X o to)
    (hbase : attributeBase o name X.env (eval o X.env) = eval o X.env := by rfl) (hline : (apos.endLine == cpos.line) = true := by rfl) : PE X (.Call (.Attribute o name apos) [] [] cpos) (tBM0 X.K T r to) := by
  intro pins s σ H Q I h
  refine wpAny_Call_method0_late hbase hline (thn (ho pins s σ H _ I h) fun v s1 ⟨x, H1, I1, r1, ty, q1⟩ => ?_)
  obtain ⟨h1, h2⟩ := tyV_is I1 r1 ty
  exact ⟨T, id, pa, slot, hty, h1, h2, Calls.callWith_builtin rfl (PySem.evalArgs_none (hm pins s1 σ H1 x [] v [] Q I1 r1 .nil q1))⟩
end
end L2
namespace L2
open PySem PySem.Spec PyProof.Rows
theorem Vals.one : ∀ {x : V} {us : List Value}, Vals [x] us → ∃ u, us = [u] ∧ RelV x u
  | _, _, .cons r .nil => ⟨_, rfl, r⟩
section
variable {X : Cx} {pins : List (Addr × Obj)} {σ : St} {H : Hp} {s : Shared} {l b : Addr} {xs ys zs : List V}
theorem Inv.lnew {its : List Value} {t' : Nat} (I : Inv X pins σ H s) (hv : Vals ys its) (hz : ys.length ≤ sizeLine) :
    Inv X pins σ (upd H s.heap.objs.size (.lst ys)) { s with heap := s.heap.push { cls := .type "list", data := .seq its.toArray }, toks := t' } :=
  I.laid (fun _ _ q => Heap.get?_push_of_some _ q) (Nat.le_refl _) ⟨hz, its, 0, hv, Heap.get?_push_size _ rfl⟩
theorem Inv.fresh (I : Inv X pins σ H s) : H s.heap.objs.size = none := I.hok.fresh (Nat.le_refl _)
theorem Inv.lstM (I : Inv X pins σ H s) (hH : H l = some (.lst xs)) : xs.length ≤ sizeLine ∧ ∃ (its : List Value) (n : Nat), Vals xs its ∧ xs.length = its.length ∧ s.heap.get? l = some { cls := .type "list", data := .seq its.toArray n } := by
  obtain ⟨z, its, n, r, e⟩ := I.hok l _ hH
  exact ⟨z, its, n, r, r.length, e⟩

end
section
variable {X : Cx}
noncomputable def rCat : R2 := fun x y H Q => ∃ l b xs zs, x = .ref l ∧ y = .ref b ∧ H l = some (.lst xs) ∧ H b = some (.lst zs) ∧ xs.length + zs.length ≤ sizeLine ∧ ∀ p, H p = none → Q (.ref p) (upd H p (.lst (xs ++ zs)))
theorem op_cat : OpR X (binaryOp .Add) rCat := by
  intro pins s σ H x y v u Q I rx ry h
  obtain ⟨l, b, xs, zs, rfl, rfl, hH, hB, hz, q⟩ := h
  cases rx
  cases ry
  obtain ⟨z, its, n, r, hl, e⟩ := I.lstM hH
  obtain ⟨z2, its2, n2, r2, hl2, e2⟩ := I.lstM hB
  refine PySem.P.add_list e e2 ?_ (by rw [List.size_toArray, List.size_toArray]; omega)
  have ea : its.toArray ++ its2.toArray = (its ++ its2).toArray := by simp
  rw [ea]
  exact ⟨.ref _, _, I.lnew (t' := s.toks) (r.append r2) (by rw [List.length_append]; omega), rfl, q _ I.fresh⟩
end
section
variable {prog : Program} {w : World} {A : Around} {E : Value → Shared → Prop} {s : Shared}
end
section
variable {X : Cx}
end
end L2
namespace L2
open PySem PySem.Spec PyProof.Rows
theorem Vals.ints : ∀ {ns : List Int} {us : List Value}, Vals (ns.map V.int) us → IntsAre us ns
  | [], us, h => by
    rw [List.map_nil] at h
    cases h
    exact IntsAre.nil
  | n :: ns, us, h => by
    rw [List.map_cons] at h
    cases h with
    | cons r t =>
      obtain ⟨k, rfl⟩ := r
      exact IntsAre.cons n k (Vals.ints t)
theorem Vals.bls : ∀ {bs : List Bool} {us : List Value}, Vals (bs.map V.bl) us → us = bs.map Value.bool
  | [], us, h => by
    rw [List.map_nil] at h
    cases h
    rfl
  | b :: bs, us, h => by
    rw [List.map_cons] at h
    cases h with
    | cons r t =>
      cases r
      rw [Vals.bls t, List.map_cons]
theorem Vals.ref1 {a : Addr} {us : List Value} (r : Vals [V.ref a] us) : us = [Value.ref a] := by
  cases r with
  | cons r t =>
    cases t
    cases r
    rfl
section
variable {prog : Program} {w : World} {A : Around} {E : Value → Shared → Prop} {s : Shared} {l : Addr} {its : List Value} {ns : List Int} {Q : Value → Shared → Prop}
end
section
variable {X : Cx}
end
section
variable {X : Cx}
end
section
variable {X : Cx}
end
theorem iter_any {prog : Program} {w : World} {A : Around} {E : Value → Shared → Prop} {s : Shared} {l : Addr} {items : Array Value} {Q : Value → Shared → Prop} (hl : s.heap.IsList l items)
    (h : ∀ s₂ : Shared, s₂ = { s with heap := s.heap.push { cls := .type "list_iterator", data := .fields #[.ref l, .int 0 0] } } →
      (s₂.heap.IsListIter s.heap.objs.size l 0 ∧ s₂.heap.IsList l items) → l ≠ s.heap.objs.size → Q (.ref s.heap.objs.size) s₂) : wpAny (model prog w) A (pyIter (.ref l)) Q E s := by
  have hlt : l < s.heap.objs.size := by obtain ⟨_, e, _⟩ := hl; exact Heap.lt_size e
  exact wpAny_pyIter_list hl (h _ rfl ⟨⟨_, Heap.get?_push_size _ rfl, rfl, rfl⟩, hl.push _⟩ (Nat.ne_of_lt hlt))
theorem truth_bools {prog : Program} {w : World} {A : Around} {bs : List Bool} {its : List Value} (e : its = bs.map Value.bool) :
    TruthOf prog w A (fun i v => its.toArray[i]? = some v) (fun i => bs.getD i false) := fun i v s Q E hv hq => by
  have hv' : its[i]? = some v := by simpa using hv
  rw [e, List.getElem?_map] at hv'
  obtain ⟨b, hb, rfl⟩ := Option.map_eq_some_iff.mp hv'
  have hg : bs.getD i false = b := by rw [List.getD_eq_getElem?_getD, hb] <;> rfl
  have hq' : Q (bs.getD i false) s := hq
  rw [hg] at hq'
  exact wpAny_truthy_bool hq'
theorem all_range : ∀ bs : List Bool, (List.range bs.length).all (fun i => bs.getD i false) = bs.all id
  | [] => rfl
  | b :: bs => by
    rw [List.length_cons, List.range_succ_eq_map, List.all_cons, List.all_map, List.all_cons, ← all_range bs]
    all_goals rfl
section
variable {X : Cx}
noncomputable def rAll (K : PySem.W.Frag) : List V → Hp → VK → Prop := fun vs H Q => ∃ (a : Addr) (bs : List Bool), vs = [V.ref a] ∧ SqL K H a (bs.map V.bl) ∧ Q (.bl (bs.all id)) H
theorem cr_all (hc : X.calm = true) : CallR X (.builtin "all") (rAll X.K) := by
  intro pins s σ H vs us Q I r h
  obtain ⟨a, bs, rfl, hs, q⟩ := h
  obtain ⟨its, rv, hl, _⟩ := I.list hs
  rw [Vals.ref1 r]
  have hb := rv.bls
  refine call_all_walk (iter_any hl.isList fun s₂ e2 st hne => ?_)
  subst e2
  refine ⟨_, _, _, _, _, _, _, rfl, Walks.list (A := X.A.in1) (I.ok.hd hc) _ a hne its.toArray, st, truth_bools hb, fun h' tk hk => ?_⟩
  refine ⟨.bl _, H, I.kept fun b o eo => hk b o (fun hmem => ?_) (Heap.get?_push_of_some _ eo), ?_, q⟩
  · rcases List.mem_cons.mp hmem with e1 | hmem
    · exact absurd (e1 ▸ Heap.lt_size eo) (Nat.lt_irrefl _)
    · cases hmem
  · show Value.bool _ = Value.bool _
    rw [← all_range, hb, List.size_toArray, List.length_map]
end
mutual
inductive Dp (K : PySem.W.Frag) (H : Hp) : V → PyData → Prop
  | non : Dp K H .non .none
  | bl (b : Bool) : Dp K H (.bl b) (.bool b)
  | int (i : Int) : Dp K H (.int i) (.int i)
  | str (x : Str) : Dp K H (.str x) (.str x)
  | lst {a : Addr} {xs : List V} {ds : List PyData} : SqL K H a xs → DpAll K H xs ds → Dp K H (.ref a) (.list ds)
  | tup {a : Addr} {xs : List V} {ds : List PyData} : SqT K H a xs → DpAll K H xs ds → Dp K H (.ref a) (.tuple ds)
inductive DpAll (K : PySem.W.Frag) (H : Hp) : List V → List PyData → Prop
  | nil : DpAll K H [] []
  | cons {v : V} {vs : List V} {d : PyData} {ds : List PyData} : Dp K H v d → DpAll K H vs ds → DpAll K H (v :: vs) (d :: ds)
end
section
variable {X : Cx} {pins : List (Addr × Obj)} {σ : St} {H : Hp} {s : Shared}
mutual
theorem Dp.reads (I : Inv X pins σ H s) : ∀ (d : PyData) (v : V) (u : Value), Dp X.K H v d → RelV v u → ∃ as, Reads s.heap u d as
  | .none, _, _, h, r => by
    cases h
    cases r
    exact ⟨_, Reads.none⟩
  | .bool b, _, _, h, r => by
    cases h
    cases r
    exact ⟨_, Reads.bool b⟩
  | .int i, _, _, h, r => by
    cases h
    obtain ⟨t, rfl⟩ := r
    exact ⟨_, Reads.int i t⟩
  | .str x, _, _, h, r => by
    cases h
    obtain ⟨t, rfl⟩ := r
    exact ⟨_, Reads.str x t⟩
  | .list ds, _, _, h, r => by
    cases h with
    | lst hs ha =>
      cases r
      obtain ⟨its, rv, ⟨o, n, ho, hc, _, hd⟩, _⟩ := I.list hs
      obtain ⟨as, hr⟩ := Dp.readsAll I ds _ its ha rv
      exact ⟨_, Reads.list ho hc hd hr⟩
  | .tuple ds, _, _, h, r => by
    cases h with
    | tup hs ha =>
      cases r
      obtain ⟨its, rv, ⟨o, ho, hc, n, hd⟩, _⟩ := I.tuple hs
      obtain ⟨as, hr⟩ := Dp.readsAll I ds _ its ha rv
      exact ⟨_, Reads.tuple ho hc hd hr⟩
  | .dict _, _, _, h, _ => by cases h
theorem Dp.readsAll (I : Inv X pins σ H s) : ∀ (ds : List PyData) (vs : List V) (us : List Value), DpAll X.K H vs ds → Vals vs us → ∃ as, ReadsAll s.heap us ds as
  | [], _, _, h, r => by
    cases h
    cases r
    exact ⟨_, ReadsAll.nil⟩
  | d :: ds, _, _, h, r => by
    cases h with
    | cons h1 h2 =>
      cases r with
      | cons r1 r2 =>
        obtain ⟨as, q1⟩ := Dp.reads I d _ _ h1 r1
        obtain ⟨bs, q2⟩ := Dp.readsAll I ds _ _ h2 r2
        exact ⟨_, ReadsAll.cons q1 q2⟩
end
end
section
variable {X : Cx}
end
end L2
namespace L2
open PySem PySem.Spec PyProof.Rows
noncomputable abbrev CellAt (h : Heap) (c : Addr) (v : Option Value) : Prop := h.IsCell c v
noncomputable def relS (scope sc : Scope) : Scope :=
  { scope with names := scope.names.map fun (n, k) => if (k == .free && sc.kind == .function && sc.names.lookup n == some .cell) then (n, .cell) else (n, k) }

noncomputable def cloFrom (cells : List (Str × Addr)) : List (Str × NameKind) → List (Str × Addr) → List (Str × Addr)
  | [], acc => acc
  | (n, k) :: r, acc => if k == .free then cloFrom cells r ((n, (cells.lookup n).getD 0) :: acc) else cloFrom cells r acc

theorem closure_loop (env : Env) (f : Str × NameKind → List (Str × Addr) → Sem (ForInStep (List (Str × Addr))))
    (hf : ∀ n k c, f (n, k) c = if k == .free then (do let a ← cellOf env n; pure (.yield ((n, a) :: c))) else pure (.yield c)) :
    ∀ (names : List (Str × NameKind)) (acc : List (Str × Addr)), (∀ y ∈ names, y.2 = .free → ∃ c, env.cells.lookup y.1 = some c) → forIn names acc f = pure (cloFrom env.cells names acc)
  | [], acc, _ => by rw [List.forIn_nil]; rfl
  | (n, k) :: r, acc, h => by
    rw [List.forIn_cons, hf]
    have ih := fun acc => closure_loop env f hf r acc fun y hy => h y (List.mem_cons_of_mem _ hy)
    unfold cloFrom
    by_cases hk : (k == NameKind.free) = true
    · rw [if_pos hk, if_pos hk]
      obtain ⟨c, hc⟩ := h (n, k) List.mem_cons_self (by simpa using hk)
      have e : cellOf env n = pure c := by unfold cellOf; rw [hc]
      rw [e]
      have e2 : (env.cells.lookup n).getD 0 = c := by rw [hc]; rfl
      rw [e2]
      exact ih _
    · rw [if_neg hk, if_neg hk]
      exact ih _
theorem closure_ok {scope : Scope} {env : Env} (h : ∀ y ∈ scope.names, y.2 = .free → ∃ c, env.cells.lookup y.1 = some c) : closureFor scope env = pure (cloFrom env.cells scope.names []) := by
  simp only [closureFor]
  rw [closure_loop env _ (fun n k c => rfl) scope.names [] h]
  rfl

theorem mem_lookup {α : Type} : ∀ {l : List (Str × α)} {n : Str} {c : α}, (n, c) ∈ l → ∃ c', l.lookup n = some c'
  | (k, v) :: r, n, c, h => by
    rw [List.lookup_cons]
    cases hb : n == k with
    | true => exact ⟨_, rfl⟩
    | false =>
      rcases List.mem_cons.mp h with e | h
      · cases e; simp at hb
      · exact mem_lookup h

theorem cloFrom_mem {cells : List (Str × Addr)} : ∀ {names : List (Str × NameKind)} {acc : List (Str × Addr)} {n : Str} {c : Addr}, (n, c) ∈ cloFrom cells names acc → (n, c) ∈ acc ∨ ((n, .free) ∈ names ∧ c = (cells.lookup n).getD 0)
  | [], _, _, _, h => .inl h
  | (m, k) :: r, acc, n, c, h => by
    unfold cloFrom at h
    split at h
    · rename_i hk
      have hk : k = .free := by simpa using hk
      rcases cloFrom_mem h with h | ⟨h1, h2⟩
      · rcases List.mem_cons.mp h with e | h
        · cases e; exact .inr ⟨hk ▸ List.mem_cons_self, rfl⟩
        · exact .inl h
      · exact .inr ⟨List.mem_cons_of_mem _ h1, h2⟩
    · rcases cloFrom_mem h with h | ⟨h1, h2⟩
      · exact .inl h
      · exact .inr ⟨List.mem_cons_of_mem _ h1, h2⟩
theorem cloFrom_acc {cells : List (Str × Addr)} : ∀ {names : List (Str × NameKind)} {acc : List (Str × Addr)} {p : Str × Addr}, p ∈ acc → p ∈ cloFrom cells names acc
  | [], _, _, h => h
  | (m, k) :: r, acc, p, h => by
    unfold cloFrom
    split
    · exact cloFrom_acc (List.mem_cons_of_mem _ h)
    · exact cloFrom_acc h
theorem cloFrom_has {cells : List (Str × Addr)} : ∀ {names : List (Str × NameKind)} {acc : List (Str × Addr)} {n : Str}, (n, .free) ∈ names → (n, (cells.lookup n).getD 0) ∈ cloFrom cells names acc
  | (m, k) :: r, acc, n, h => by
    unfold cloFrom
    rcases List.mem_cons.mp h with e | h
    · cases e
      exact cloFrom_acc List.mem_cons_self
    · split
      · exact cloFrom_has h
      · exact cloFrom_has h

theorem cells_mem : ∀ {names : List (Str × NameKind)} {h : Heap} {acc : List (Str × Addr)} {x : Str} {c : Addr}, (x, c) ∈ cellsFrom h.objs.size names acc →
    (x, c) ∈ acc ∨ ((x, .cell) ∈ names ∧ h.objs.size ≤ c ∧ CellAt (pushCells h names) c none)
  | [], _, _, _, _, h => .inl h
  | (n, k) :: r, h, acc, x, c, hm => by
    unfold cellsFrom at hm
    unfold pushCells
    split at hm
    · rename_i hk
      rw [if_pos hk]
      have hk : k = .cell := by simpa using hk
      rw [← Heap.size_push h { cls := .type "cell", data := .cell none }] at hm
      rcases cells_mem hm with hm | ⟨h1, h2, h3⟩
      · rcases List.mem_cons.mp hm with e | hm
        · cases e
          exact .inr ⟨hk ▸ List.mem_cons_self, Nat.le_refl _, _, pushCells_keeps r _ _ _ (Heap.get?_push_size _ rfl), rfl⟩
        · exact .inl hm
      · rw [Heap.size_push] at h2
        exact .inr ⟨List.mem_cons_of_mem _ h1, Nat.le_of_succ_le h2, h3⟩
    · rename_i hk
      rw [if_neg hk]
      rcases cells_mem hm with hm | ⟨h1, h2, h3⟩
      · exact .inl hm
      · exact .inr ⟨List.mem_cons_of_mem _ h1, h2, h3⟩
theorem cells_acc : ∀ {names : List (Str × NameKind)} {n : Nat} {acc : List (Str × Addr)} {p : Str × Addr}, p ∈ acc → p ∈ cellsFrom n names acc
  | [], _, _, _, h => h
  | (m, k) :: r, n, acc, p, h => by
    unfold cellsFrom
    split
    · exact cells_acc (List.mem_cons_of_mem _ h)
    · exact cells_acc h
theorem cells_has : ∀ {names : List (Str × NameKind)} {n : Nat} {acc : List (Str × Addr)} {x : Str}, (x, .cell) ∈ names → ∃ c, (x, c) ∈ cellsFrom n names acc
  | (m, k) :: r, n, acc, x, h => by
    unfold cellsFrom
    rcases List.mem_cons.mp h with e | h
    · cases e
      exact ⟨n, cells_acc List.mem_cons_self⟩
    · split
      · exact cells_has h
      · exact cells_has h
theorem cells_inj : ∀ {names : List (Str × NameKind)} {h : Heap} {acc : List (Str × Addr)} {x y : Str} {c : Addr}, (∀ p ∈ acc, p.2 < h.objs.size) → (∀ x y c, (x, c) ∈ acc → (y, c) ∈ acc → x = y) →
    (x, c) ∈ cellsFrom h.objs.size names acc → (y, c) ∈ cellsFrom h.objs.size names acc → x = y
  | [], _, _, _, _, _, _, hi, h1, h2 => hi _ _ _ h1 h2
  | (n, k) :: r, h, acc, x, y, c, hl, hi, h1, h2 => by
    unfold cellsFrom at h1 h2
    split at h1
    · rename_i hk
      rw [if_pos hk] at h2
      rw [← Heap.size_push h { cls := .type "cell", data := .cell none }] at h1 h2
      refine cells_inj (h := h.push _) (fun p hp => ?_) (fun x y c a b => ?_) h1 h2
      · rw [Heap.size_push]
        rcases List.mem_cons.mp hp with rfl | hp
        · exact Nat.lt_succ_self _
        · exact Nat.lt_succ_of_lt (hl p hp)
      · rcases List.mem_cons.mp a with e | a <;> rcases List.mem_cons.mp b with e' | b
        · cases e; cases e'; rfl
        · cases e; exact absurd (hl _ b) (Nat.lt_irrefl _)
        · cases e'; exact absurd (hl _ a) (Nat.lt_irrefl _)
        · exact hi _ _ _ a b
    · rename_i hk
      rw [if_neg hk] at h2
      exact cells_inj hl hi h1 h2

theorem newEnv_comp {M : Model} {A : Around} {E : Value → Shared → Prop} {s : Shared} {scope : Scope} {globals : Addr} {closure : List (Str × Addr)} {qual : Str} {func : Option Addr} {code : Value} {around : Env} {builtins : Addr} {Q : Env → Shared → Prop}
    (h : Q (newEnv scope s.heap.objs.size globals (cellsFrom (s.heap.objs.size + 1) scope.names closure) qual func code (some around) builtins)
      { s with heap := pushCells (s.heap.push { cls := .type "dict", data := .dict #[] }) scope.names }) :
    wpAny M A (newFunctionEnv scope globals closure [] qual func code (some around) builtins) Q E s := by
  simp only [newFunctionEnv, Option.isSome_some, if_true]
  refine wpAny_bind (wpAny_alloc ?_)
  refine wpAny_bind (wpAny_layCells _ (fun n k c => rfl) scope.names closure _ _ ?_)
  rw [show ({ s with heap := s.heap.push { cls := .type "dict", data := .dict #[] } } : Shared).heap.objs.size = s.heap.objs.size + 1 from Heap.size_push ..]
  rw [List.forIn_nil]
  exact wpAny_bind (wpAny_pure (wpAny_pure h))

theorem lookup_relS {sc : Scope} : ∀ {names : List (Str × NameKind)} {x : Str} {k : NameKind},
    (names.map fun (n, k) => if (k == NameKind.free && sc.kind == .function && sc.names.lookup n == some .cell) then (n, NameKind.cell) else (n, k)).lookup x = some k →
    ∃ k', names.lookup x = some k' ∧ (k = k' ∨ (k' = .free ∧ k = .cell))
  | [], _, _, h => by simp at h
  | (n, k₀) :: r, x, k, h => by
    have ih := @lookup_relS sc r x k
    have h' : List.lookup x ((if (k₀ == NameKind.free && sc.kind == .function && sc.names.lookup n == some .cell) = true then (n, NameKind.cell) else (n, k₀)) :: (r.map _)) = some k := h
    cases hx : x == n with
    | true =>
      simp only [List.lookup_cons, hx]
      by_cases hc : (k₀ == NameKind.free && sc.kind == .function && sc.names.lookup n == some .cell) = true
      · rw [if_pos hc] at h'
        simp only [List.lookup_cons, hx] at h'
        cases h'
        simp only [Bool.and_eq_true, beq_iff_eq] at hc
        exact ⟨k₀, rfl, .inr ⟨hc.1.1, rfl⟩⟩
      · rw [if_neg hc] at h'
        simp only [List.lookup_cons, hx] at h'
        cases h'
        exact ⟨_, rfl, .inl rfl⟩
    | false =>
      simp only [List.lookup_cons, hx]
      by_cases hc : (k₀ == NameKind.free && sc.kind == .function && sc.names.lookup n == some .cell) = true
      · rw [if_pos hc] at h'
        simp only [List.lookup_cons, hx] at h'
        exact ih h'
      · rw [if_neg hc] at h'
        simp only [List.lookup_cons, hx] at h'
        exact ih h'
structure BlkOk (N : List Str) (sc scope : Scope) (own : List (Str × Nat)) : Prop where
  kind : scope.kind = .function
  uniq : ∀ y ∈ scope.names, scope.names.lookup y.1 = some y.2
  ix : ∀ p ∈ own, N[p.2]? = some p.1
  free : ∀ y ∈ scope.names, y.2 = .free → sc.names.lookup y.1 = some .cell ∨ sc.names.lookup y.1 = some .free
  own : ∀ y ∈ scope.names, y.2 = .local ∨ y.2 = .cell → y.1 ∈ own.map (·.1) ∨ y.1 ∉ N
noncomputable def wipe (σ : St) : List Nat → St
  | [] => σ
  | v :: vs => (wipe σ vs).set v none
theorem wipe_length (σ : St) : ∀ vs : List Nat, (wipe σ vs).length = σ.length
  | [] => rfl
  | v :: vs => by unfold wipe; rw [List.length_set, wipe_length σ vs]
theorem wipe_some {σ : St} {i : Nat} {x : V} : ∀ {vs : List Nat}, (wipe σ vs)[i]? = some (some x) → σ[i]? = some (some x) ∧ i ∉ vs
  | [], h => ⟨h, by simp⟩
  | v :: vs, h => by
    unfold wipe at h
    by_cases hi : v = i
    · subst hi
      by_cases hv : v < (wipe σ vs).length
      · rw [List.getElem?_set_self hv] at h; cases h
      · rw [List.getElem?_eq_none (by simpa using hv)] at h; cases h
    · rw [List.getElem?_set_ne hi] at h
      obtain ⟨h1, h2⟩ := wipe_some h
      exact ⟨h1, by simp only [List.mem_cons, not_or]; exact ⟨fun e => hi e.symm, h2⟩⟩

noncomputable abbrev Cx.blk (X : Cx) (s : Shared) (H : Hp) (scope : Scope) (cenv : Env) (fp : List Addr) : Cx := { X with s_0 := s, H_0 := H, env := cenv, outer := X.stack, ex := fp, fn := fun x => scope.names.lookup x == some .cell, pn := [], xe := fun _ _ => False }
section
variable {X : Cx} {pins : List (Addr × Obj)} {σ : St} {H : Hp} {s : Shared}
theorem block_start {scope : Scope} {own : List (Str × Nat)} {fp : List Addr} (I : Inv X pins σ H s) (ok : BlkOk X.N X.env.scope scope own) (hN : X.N.Nodup) (hfp : ∀ b ∈ fp, FpOk X pins H b ∧ b < s.heap.objs.size) :
    Inv (X.blk s H scope (compEnvC scope (cellsFrom (s.heap.objs.size + 1) scope.names (cloFrom X.env.cells scope.names [])) s.heap.objs.size X.env) fp) [] (wipe σ (own.map (·.2))) H { s with heap := pushCells (s.heap.push { cls := .type "dict", data := .dict #[] }) scope.names } := by
  have hfree : ∀ y ∈ scope.names, y.2 = .free → ∃ c, X.env.cells.lookup y.1 = some c := fun y hy e => by
    rcases ok.free y hy e with k | k
    · exact I.ok.has _ (.inl k)
    · exact I.ok.has _ (.inr k)
  generalize hcenv : compEnvC scope (cellsFrom (s.heap.objs.size + 1) scope.names (cloFrom X.env.cells scope.names [])) s.heap.objs.size X.env = cenv
  have kp : ∀ b o, s.heap.get? b = some o → (pushCells (s.heap.push { cls := .type "dict", data := .dict #[] }) scope.names).get? b = some o := fun b o e => pushCells_keeps _ _ _ _ (Heap.get?_push_of_some _ e)
  have hL : cenv.locals = s.heap.objs.size := by rw [← hcenv]; rfl
  have hcl : cenv.cells = cellsFrom (s.heap.objs.size + 1) scope.names (cloFrom X.env.cells scope.names []) := by rw [← hcenv]; rfl
  have hsc : cenv.scope = relS scope X.env.scope := by rw [← hcenv]; rfl
  rw [← Heap.size_push s.heap { cls := .type "dict", data := .dict #[] }] at hcl
  have cm : ∀ {y c}, (y, c) ∈ cloFrom X.env.cells scope.names [] → X.env.cells.lookup y = some c ∧ c < s.heap.objs.size := fun {y c} hm => by
    rcases cloFrom_mem hm with hm | ⟨h1, rfl⟩
    · cases hm
    · obtain ⟨c, hc⟩ := hfree _ h1 rfl
      rw [hc]
      obtain ⟨w, z⟩ := I.cell _ _ hc
      exact ⟨rfl, z.lt⟩
  have mem : ∀ {y c}, cenv.cells.lookup y = some c → (X.env.cells.lookup y = some c ∧ c < s.heap.objs.size) ∨ (s.heap.objs.size + 1 ≤ c ∧ CellAt (pushCells (s.heap.push { cls := .type "dict", data := .dict #[] }) scope.names) c none) := fun {y c} e => by
    rw [hcl] at e
    rcases cells_mem (PySem.mem_of_lookup e) with hm | ⟨_, h2, h3⟩
    · exact .inl (cm hm)
    · rw [Heap.size_push] at h2; exact .inr ⟨h2, h3⟩
  have look : ∀ {y}, scope.names.lookup y = some .free → ∃ c, cenv.cells.lookup y = some c ∧ X.env.cells.lookup y = some c := fun {y} hl => by
    have hy : (y, NameKind.free) ∈ scope.names := PySem.mem_of_lookup hl
    obtain ⟨c', e'⟩ := mem_lookup (cells_acc (names := scope.names) (n := (s.heap.push { cls := .type "dict", data := .dict #[] }).objs.size) (cloFrom_has (cells := X.env.cells) (acc := []) hy))
    rw [← hcl] at e'
    refine ⟨c', e', ?_⟩
    rw [hcl] at e'
    rcases cells_mem (PySem.mem_of_lookup e') with hm | ⟨h1, _, _⟩
    · exact (cm hm).1
    · have := ok.uniq _ h1
      rw [hl] at this; cases this
  have okB : (X.blk s H scope cenv fp).Ok := by
    refine ⟨I.ok.mod, by show cenv.scope.kind = _; rw [hsc]; exact ok.kind, by show cenv.globals = _; rw [← hcenv]; exact I.ok.glob, by show cenv.builtins = _; rw [← hcenv]; exact I.ok.blt, by show s.heap.objs.size ≤ cenv.locals; rw [hL]; exact Nat.le_refl _,
      fun y z c e1 e2 => ?_, fun y hy => ?_, fun y c z e => ?_, I.ok.hd, I.ok.frames, .inl rfl, fun b hb => ⟨?_, fun y c e z => ?_⟩, I.bs, Nat.le_trans I.ok.bsz I.sz, fun b o e hb => ?_, fun b hb z => ?_, I.stack, I.stkFree⟩
    · have e1 : cenv.cells.lookup y = some c := e1
      have e2 : cenv.cells.lookup z = some c := e2
      rw [hcl] at e1 e2
      refine cells_inj (fun p hp => ?_) (fun y z c a b => I.ok.inj y z c (cm a).1 (cm b).1) (PySem.mem_of_lookup e1) (PySem.mem_of_lookup e2)
      rw [Heap.size_push]
      exact Nat.lt_succ_of_lt (cm (y := p.1) (c := p.2) hp).2
    · show ∃ c, cenv.cells.lookup y = some c
      have key : ∀ k, cenv.kindOf y = some k → (k = .cell ∨ k = .free) → ∃ c, cenv.cells.lookup y = some c := fun k hk hk' => by
        unfold Env.kindOf at hk
        rw [hsc] at hk
        obtain ⟨k', e, r⟩ := lookup_relS hk
        have : k' = .cell ∨ k' = .free := by
          rcases r with rfl | ⟨rfl, _⟩
          · exact hk'
          · exact .inr rfl
        rcases this with rfl | rfl
        · obtain ⟨c, hm⟩ := cells_has (n := (s.heap.push { cls := .type "dict", data := .dict #[] }).objs.size) (acc := cloFrom X.env.cells scope.names []) (PySem.mem_of_lookup e)
          obtain ⟨c', e'⟩ := mem_lookup hm
          exact ⟨c', by rw [hcl]; exact e'⟩
        · obtain ⟨c, h1, _⟩ := look e
          exact ⟨c, h1⟩
      rcases hy with hy | hy
      · exact key _ hy (.inl rfl)
      · exact key _ hy (.inr rfl)
    · have z : (scope.names.lookup y == some NameKind.cell) = true := z
      have z : scope.names.lookup y = some .cell := by simpa using z
      have e : cenv.cells.lookup y = some c := e
      rw [hcl] at e
      rcases cells_mem (PySem.mem_of_lookup e) with hm | ⟨_, h2, _⟩
      · rcases cloFrom_mem hm with hm | ⟨h1, _⟩
        · cases hm
        · have q := ok.uniq _ h1
          rw [z] at q; cases q
      · rw [Heap.size_push] at h2
        exact Nat.le_of_succ_le h2
    · show b ≠ cenv.locals
      rw [hL]; exact Nat.ne_of_lt (hfp b hb).2
    · have e : cenv.cells.lookup y = some c := e
      rcases mem e with ⟨h1, _⟩ | ⟨h1, _⟩
      · exact (hfp b hb).1.2.2.2.2.1 y c h1 z
      · have h2 : s.heap.objs.size + 1 ≤ b := by rw [← z]; exact h1
        exact absurd (Nat.lt_of_lt_of_le (hfp b hb).2 (Nat.le_of_succ_le h2)) (Nat.lt_irrefl _)
    · rcases (hfp b hb).1.2.2.2.1 with z | z
      · exact I.ok.noex b o e z
      · exact absurd (Nat.lt_of_lt_of_le (Heap.lt_size e) (Nat.le_trans I.ok.bsz z)) (Nat.lt_irrefl _)
    · rcases List.mem_cons.mp (I.stkSub b z) with z | z
      · exact (hfp b hb).1.2.1 z
      · exact (hfp b hb).1.2.2.1 z
  refine ⟨okB, rfl, I.bare, Un.kept kp, ⟨fun _ => none, ?_, fun i y av e1 e2 e3 => ?_⟩, fun y c e => ?_, ?_, fun y c e => ?_, fun p hp => ?_, I.hok.kept kp, by rw [wipe_length]; exact I.len⟩
  · show Heap.Ns _ cenv.locals _
    rw [hL]
    exact Heap.Ns.keeps (Heap.Ns.new ..) fun b o e => pushCells_keeps _ _ _ _ e
  · obtain ⟨e2, hne⟩ := wipe_some e2
    have hfr : scope.names.lookup y = some .free ∧ (cenv.kindOf y = some .cell ∨ cenv.kindOf y = some .free) := by
      have key : ∀ k, cenv.scope.names.lookup y = some k → k = .local ∨ k = .cell ∨ k = .free → scope.names.lookup y = some .free ∧ (cenv.kindOf y = some .cell ∨ cenv.kindOf y = some .free) := fun k hk hk' => by
        have hk0 := hk
        rw [hsc] at hk
        obtain ⟨k', e, r⟩ := lookup_relS hk
        have no : ¬ (k' = .local ∨ k' = .cell) := fun hh => by
          rcases ok.own _ (PySem.mem_of_lookup e) hh with e' | e'
          · obtain ⟨p, hp, hpy⟩ := List.mem_map.mp e'
            have e3 := ok.ix p hp
            have : p.1 = y := hpy
            rw [this] at e3
            exact hne (List.mem_map.mpr ⟨p, hp, nodup_ix hN e3 e1⟩)
          · exact e' (List.mem_of_getElem? e1)
        rcases r with rfl | ⟨rfl, rfl⟩
        · rcases hk' with rfl | rfl | rfl
          · exact absurd (.inl rfl) no
          · exact absurd (.inr rfl) no
          · exact ⟨e, .inr hk0⟩
        · exact ⟨e, .inl hk0⟩
      have e3 : Vis cenv.scope y := e3
      rcases e3 with e3 | e3 | e3
      · exact key _ e3 (.inl rfl)
      · exact key _ e3 (.inr (.inl rfl))
      · exact key _ e3 (.inr (.inr rfl))
    obtain ⟨m, hn, hl⟩ := I.loc
    have hvis : Vis X.env.scope y := (ok.free _ (PySem.mem_of_lookup hfr.1) rfl).elim (fun k => .inr (.inl k)) (fun k => .inr (.inr k))
    obtain ⟨w, r, q⟩ := hl i y av e1 e2 hvis
    refine ⟨w, r, .inr ⟨hfr.2, ?_⟩⟩
    obtain ⟨c, h1, h2⟩ := look hfr.1
    rcases q with ⟨k, _⟩ | ⟨_, c', e', z⟩
    · have k : X.env.scope.names.lookup y = some .local := k
      rcases ok.free _ (PySem.mem_of_lookup hfr.1) rfl with k' | k' <;> rw [show X.env.scope.names.lookup y = _ from k'] at k <;> cases k
    · rw [h2] at e'; cases e'
      exact ⟨c, h1, z.keeps kp⟩
  · have e : cenv.cells.lookup y = some c := e
    rcases mem e with ⟨h1, _⟩ | ⟨_, z⟩
    · obtain ⟨w, z⟩ := I.cell y c h1
      exact ⟨w, z.keeps kp⟩
    · exact ⟨_, z⟩
  · show H cenv.locals = none
    rw [hL]; exact I.hok.fresh (Nat.le_refl _)
  · have e : cenv.cells.lookup y = some c := e
    rcases mem e with ⟨h1, _⟩ | ⟨h1, _⟩
    · exact I.freeC y c h1
    · exact I.hok.fresh (Nat.le_of_succ_le h1)
  · exact absurd (show p ∈ ([] : List (Addr × Obj)) ++ [] from hp) (by simp)

theorem app_ok {E : Value → Shared → Prop} {D : Addr} {xs : List V} {y : V} {v : Value} {Q : Value → Shared → Prop} (I : Inv X pins σ H s) (hD : H D = some (.lst xs)) (hz : xs.length < sizeLine) (r : RelV y v)
    (h : ∀ s', Inv X pins σ (upd H D (.lst (xs ++ [y]))) s' → Q .none s') : wpAny (model X.prog X.w) X.A (call (.builtin "list.append") [.ref D, v]) Q E s := by
  obtain ⟨hz', its, n, ri, e⟩ := I.hok D _ hD
  have hl := ri.length
  refine append_at (hsz := by rw [List.size_toArray]; omega) e fun h' sb ho' => ?_
  refine h { s with heap := h' } (I.write (t' := s.toks) (by rw [hD]; trivial) (.inl rfl) (fun b u hb q => (sb.2 b hb).trans q) ⟨_, ho'⟩ ⟨by rw [List.length_append]; exact hz, its ++ [v], n + 1, ri.append (.cons r .nil), ?_⟩)
  rw [ho']
  simp

noncomputable def PTs (X : Cx) (ifs : List Expr) (t : TT) : Prop :=
  ∀ (pins : List (Addr × Obj)) (s : Shared) (σ : St) (H : Hp) (Q : Bool → Hp → Prop), Inv X pins σ H s → t σ H Q →
    wpAny (model X.prog X.w) X.A (forIn ifs true fun c r => if r = true then do let ok ← isTrue c X.env (eval c X.env); pure (ForInStep.yield ok) else pure (ForInStep.yield r)) (TP X pins σ Q) X.xe s
noncomputable def tYes : TT := fun _ H Q => Q true H
theorem pts_nil : PTs X [] tYes := fun _ _ _ H _ I h => wpAny_tests_nil ⟨H, I, h⟩
end
theorem thnF {α : Type} {t : Sem α} {Q Q' : α → Shared → Prop} {M : Model} {A : Around} {E : Value → Shared → Prop} {s : Shared} (h : wpAny M A t Q (fun _ _ => False) s) (hQ : ∀ a s, Q a s → Q' a s) : wpAny M A t Q' E s := wpAny_mono h hQ fun _ _ z => False.elim z

theorem compLoop_any {prog : Program} {w : World} {A : Around} {R : Result → Shared → Prop} {s : Shared} {elt target iter : Expr} {ifs : List Expr} {scope : Scope} {pos : Pos} {it acc : Value} {env : Env} (I : Nat → Shared → Prop)
    (turn : ∀ n s, I n s → wpAny (model prog w) A (pyNext it) (fun r s₁ => match r with
      | none => R (.ok .next) s₁
      | some v => wpAny (model prog w) A (letOwnedTupleGo target it v) (fun _ s₁' => wpAny (model prog w) A (assign target env v) (fun _ s₂ =>
          wpAny (model prog w) A (forIn ifs true fun c r => if r = true then do let ok ← isTrue c env (eval c env); pure (ForInStep.yield ok) else pure (ForInStep.yield r)) (fun ok s₃ =>
            if ok = true then wpAny (model prog w) A (eval elt env) (fun x s₄ =>
              wpAny (model prog w) A (call (.builtin "list.append") [acc, x]) (fun _ s₅ => ∃ m, m < n ∧ I m s₅) (notedBy (model prog w) A env fun e s' => R (.error e) s') s₄) (notedBy (model prog w) A env fun e s' => R (.error e) s') s₃
            else ∃ m, m < n ∧ I m s₃) (notedBy (model prog w) A env fun e s' => R (.error e) s') s₂) (notedBy (model prog w) A env fun e s' => R (.error e) s') s₁') (notedBy (model prog w) A env fun e s' => R (.error e) s') s₁) (notedBy (model prog w) A env fun e s' => R (.error e) s') s)
    (n : Nat) (h : I n s) :
    codeAny (model prog w) A (.compLoop (.ListComp elt [⟨target, iter, ifs, 0⟩] scope pos) 0 it acc env) R s := by
  refine codeAny_loop rfl I (fun n s hI => ?_) n h
  show wpAny _ A ((compTurn (.ListComp elt [⟨target, iter, ifs, 0⟩] scope pos) 0 it acc env).onRaise (fun x => do noteFrame x env; theTreesLotGoes x)) _ _ s
  refine wpAny_noted ?_
  rw [compTurn_list]
  refine wpAny_bind (wpAny_standAt (wpAny_bind (wpAny_mono (turn n s hI) (fun r s₁ h₁ => ?_) fun _ _ h' => h')))
  cases r with
  | none => exact wpAny_pure h₁
  | some v =>
    refine wpAny_bind (wpAny_mono h₁ (fun _ s₁' h₁' => ?_) fun _ _ h' => h')
    refine wpAny_bind (wpAny_mono h₁' (fun _ s₂ h₂ => wpAny_bind (wpAny_mono h₂ (fun ok s₃ h₃ => ?_) fun _ _ h' => h')) fun _ _ h' => h')
    cases ok with
    | false => exact wpAny_pure ⟨rfl, h₃⟩
    | true =>
      exact wpAny_bind (wpAny_bind (wpAny_mono h₃ (fun x s₄ h₄ => wpAny_bind (wpAny_mono h₄ (fun _ s₅ h₅ => wpAny_pure (wpAny_pure ⟨rfl, h₅⟩)) fun _ _ h' => h')) fun _ _ h' => h'))

section
variable {X : Cx}
noncomputable def tLc (wi : TI) (g : TG) (tt : TT) (te : TE) (vs : List Nat) : TE := fun σ H Q => wi σ H fun J H1 => ∀ D, H1 D = none → ∃ W : Nat → Nat → Hp → Prop, (∃ m, W 0 m (upd H1 D (.lst []))) ∧ ∀ i m H, W i m H →
  (J.stop i H ∧ Q (.ref D) H) ∨ (J.go i H ∧ ∃ Nx : Hp → Prop, (∀ H', Nx H' → ∃ m', m' < m ∧ W (i + 1) m' H') ∧ ∀ x H', J.yld i H x H' → g x (wipe σ vs) H' fun σ2 H2 => wipe σ2 vs = wipe σ vs ∧ tt σ2 H2 fun b H3 =>
    if b = true then te σ2 H3 fun y H4 => ∃ acc, H4 D = some (.lst acc) ∧ acc.length < sizeLine ∧ Nx (upd H4 D (.lst (acc ++ [y]))) else Nx H3)
theorem lc_core {pins : List (Addr × Obj)} {s : Shared} {σ : St} {H : Hp} {Q : VK} {elt tg iter : Expr} {ifs : List Expr} {scope : Scope} {own : List (Str × Nat)} {pos pos' : Pos} {wi : TI} {g : TG} {tt : TT} {te : TE} {use : Option (Value → Sem Unit)} {Qf : Value → Shared → Prop}
    (hc : X.calm = true) (hN : X.N.Nodup) (I : Inv X pins σ H s) (hi : PI X tg iter wi) (ok : BlkOk X.N X.env.scope scope own)
    (hg : ∀ (s : Shared) (H : Hp) (C : Addr) (cl : List (Str × Addr)) (fp : List Addr), PG (X.blk s H scope (compEnvC scope cl C X.env) fp) tg g) (ht : ∀ (s : Shared) (H : Hp) (C : Addr) (cl : List (Str × Addr)) (fp : List Addr), PTs (X.blk s H scope (compEnvC scope cl C X.env) fp) ifs tt)
    (he : ∀ (s : Shared) (H : Hp) (C : Addr) (cl : List (Str × Addr)) (fp : List Addr), PE (X.blk s H scope (compEnvC scope cl C X.env) fp) elt te) (hs : ∀ x, foldedSetIterable iter X.env x = pure x)
    (h : tLc wi g tt te (own.map (·.2)) σ H Q)
    (hRR : ∀ D C s' m H', Inv X pins σ H' s' → Q (.ref D) H' → s'.heap.Ns C m → FpOk X pins H' C → compPost (model X.prog X.w) X.A X.xe use Qf (.ref D) C (.ok .next) s') :
    wpAny (model X.prog X.w) X.A (comprehension (.ListComp elt [⟨tg, iter, ifs, 0⟩] scope pos) scope X.env pos' (newList []) false (eval iter X.env) use) Qf X.xe s := by
  have hfree : ∀ y ∈ scope.names, y.2 = .free → ∃ c, X.env.cells.lookup y.1 = some c := fun y hy e => by
    rcases ok.free y hy e with k | k
    · exact I.ok.has _ (.inl k)
    · exact I.ok.has _ (.inr k)
  refine wpAny_comprehension_free (use := use) rfl hs (closure_ok hfree) ok.kind (fun y hy e => by rw [ok.uniq y hy, e])
    (thn (hi pins s σ H _ I h) fun xv s1 hx => thn hx fun itv s2 h2 => ?_)
  obtain ⟨it, fp, tn, J, H2, e, I2, T, st2, f2, q⟩ := h2
  subst e
  refine wpAny_newObj_type (newEnv_comp ?_) (by show 0 ≤ sizeLine; decide)
  generalize hD : s2.heap.objs.size = D
  have hDn : H2 D = none := I2.hok.fresh (Nat.le_of_eq hD)
  obtain ⟨W, ⟨m0, w0⟩, turn⟩ := q D hDn
  -- the new list
  generalize hs3 : ({ s2 with heap := s2.heap.push { cls := .type "list", data := .seq ([] : List Value).toArray } } : Shared) = s3
  have I3 : Inv X pins σ (upd H2 D (.lst [])) s3 := by
    rw [← hs3]
    refine I2.laid (t' := s2.toks) (fun b o e => Heap.get?_push_of_some _ e) (Nat.le_of_eq hD) ⟨Nat.zero_le _, [], 0, .nil, ?_⟩
    rw [← hD]
    exact Heap.get?_push_size _ rfl
  have h3 : s3.heap = s2.heap.push { cls := .type "list", data := .seq ([] : List Value).toArray } := by rw [← hs3]
  have sz : ∀ b ∈ fp, b < s2.heap.objs.size := fun b hb => by
    obtain ⟨o, e, _⟩ := T.obj _ _ st2 b hb
    exact Heap.lt_size e
  have f3 : ∀ b ∈ fp, FpOk X pins (upd H2 D (.lst [])) b ∧ b < s3.heap.objs.size := fun b hb => by
    have hlt := sz b hb
    refine ⟨⟨?_, (f2 b hb).2⟩, by rw [h3, Heap.size_push]; exact Nat.lt_succ_of_lt hlt⟩
    rw [upd_ne (by rw [← hD]; exact Nat.ne_of_lt hlt)]
    exact (f2 b hb).1
  have st3 : tn 0 s3.heap := T.keep _ _ _ st2 fun b _ o e => by rw [h3]; exact Heap.get?_push_of_some _ e
  have I4 := block_start I3 ok hN f3
  have pg := hg s3 (upd H2 D (.lst [])) s3.heap.objs.size (cellsFrom (s3.heap.objs.size + 1) scope.names (cloFrom X.env.cells scope.names [])) fp
  have pt := ht s3 (upd H2 D (.lst [])) s3.heap.objs.size (cellsFrom (s3.heap.objs.size + 1) scope.names (cloFrom X.env.cells scope.names [])) fp
  have pe := he s3 (upd H2 D (.lst [])) s3.heap.objs.size (cellsFrom (s3.heap.objs.size + 1) scope.names (cloFrom X.env.cells scope.names [])) fp
  show codeAny _ _ (.compStart (.ListComp elt [⟨tg, iter, ifs, 0⟩] scope pos) 0 (.ref it) (.ref D) (compEnvC scope (cellsFrom (s3.heap.objs.size + 1) scope.names (cloFrom X.env.cells scope.names [])) s3.heap.objs.size X.env)) (compPost (model X.prog X.w) X.A X.xe use Qf (.ref D) s3.heap.objs.size) { s3 with heap := pushCells (s3.heap.push { cls := .type "dict", data := .dict #[] }) scope.names }
  have nfp : ∀ b ∈ fp, (upd H2 D (.lst [])) b = none := fun b hb => (f3 b hb).1.1
  generalize hce : compEnvC scope (cellsFrom (s3.heap.objs.size + 1) scope.names (cloFrom X.env.cells scope.names [])) s3.heap.objs.size X.env = ce at I4 pg pt pe ⊢
  have cL : ce.locals = s3.heap.objs.size := by subst hce; rfl
  generalize hH3 : upd H2 D (.lst []) = H3 at I3 I4 pg pt pe w0 nfp f3
  generalize hs4 : ({ s3 with heap := pushCells (s3.heap.push { cls := .type "dict", data := .dict #[] }) scope.names } : Shared) = s4 at I4 ⊢
  have st4 : tn 0 s4.heap := T.keep _ _ _ st3 fun b _ o e => by rw [← hs4]; exact pushCells_keeps _ _ _ _ (Heap.get?_push_of_some _ e)
  have stat : ∀ {σ' : St} {H' : Hp} {s' : Shared}, Inv (X.blk s3 H3 scope ce fp) [] σ' H' s' → (∀ b ∈ fp, H' b = none) → ∀ b ∈ fp, FpOk (X.blk s3 H3 scope ce fp) [] H' b := fun {σ' H' s'} I' hn b hb =>
    ⟨hn b hb, (I'.ok.exf b hb).1, I'.ok.exfs b hb, .inl hb, fun x c e => (I'.ok.exf b hb).2 x c e, fun p hp => absurd (show p ∈ ([] : List (Addr × Obj)) ++ [] from hp) (by simp)⟩
  have loop : codeAny (model X.prog X.w) X.A (.compLoop (.ListComp elt [⟨tg, iter, ifs, 0⟩] scope pos) 0 (.ref it) (.ref D) ce) (compPost (model X.prog X.w) X.A X.xe use Qf (.ref D) s3.heap.objs.size) s4 := by
    refine compLoop_any (fun n s' => ∃ i H', Inv (X.blk s3 H3 scope ce fp) [] (wipe σ (own.map (·.2))) H' s' ∧ tn i s'.heap ∧ (∀ b ∈ fp, H' b = none) ∧ W i n H') ?_ m0 ⟨0, H3, I4, st4, nfp, w0⟩
    rintro n s5 ⟨i, H5, I5, st5, n5, w5⟩
    rcases turn i n H5 w5 with ⟨stop, qq⟩ | ⟨go, Nx, hNx, step⟩
    · have td := T.done (X.blk s3 H3 scope ce fp) rfl rfl rfl hc i [] s5 _ H5 (fun _ _ => False) I5 (stat I5 n5) st5 stop
      refine thnF td fun r s6 ⟨hr, I6⟩ => ?_
      subst hr
      -- back in the def's context
      have I7 : Inv X pins σ H5 s6 := I3.call' (ch := fp) I6.os I6.base I6.hok I6.bare fun b hb => ⟨(f3 b hb).1.2.2.2.1, (f3 b hb).1.2.1, (f3 b hb).1.2.2.2.2.1, (f3 b hb).1.2.2.2.2.2⟩
      have nC : H5 s3.heap.objs.size = none := by
        have z : H5 ce.locals = none := I6.free
        rw [cL] at z
        exact z
      obtain ⟨m, hn, _⟩ := I6.loc
      have hn : s6.heap.Ns ce.locals m := hn
      rw [cL] at hn
      exact hRR D s3.heap.objs.size s6 m H5 I7 qq hn (I3.fpOk (Nat.le_refl _) nC)
    · have ti := T.item (X.blk s3 H3 scope ce fp) rfl rfl rfl hc i [] s5 _ H5 (fun _ _ => False) I5 (stat I5 n5) st5 go
      refine thnF ti fun r s6 ⟨u, hr, h6⟩ => ?_
      subst hr
      refine thnF h6 fun _ s7 ⟨x, H7, I7, r7, y7, st7, n7⟩ => ?_
      have I7' := I7.pinned (stat I7 n7) (T.obj _ _ st7)
      refine thnF (pg _ s7 _ H7 x u _ I7' r7 (step x H7 y7)) fun _ s8 ⟨σ8, H8, I8, hw8, q8⟩ => ?_
      refine thnF (pt _ s8 σ8 H8 _ I8 q8) fun b s9 ⟨H9, I9, q9⟩ => ?_
      -- the turn's end
      have fin : ∀ {s' : Shared} {H' : Hp}, Inv (X.blk s3 H3 scope ce fp) ([] ++ pinsAt fp s7.heap) σ8 H' s' → Nx H' → ∃ m, m < n ∧ ∃ i H', Inv (X.blk s3 H3 scope ce fp) [] (wipe σ (own.map (·.2))) H' s' ∧ tn i s'.heap ∧ (∀ b ∈ fp, H' b = none) ∧ W i m H' := fun {s' H'} I' nx => by
        obtain ⟨m', hm, w'⟩ := hNx H' nx
        have pin' : ∀ b ∈ fp, ∀ o, s7.heap.get? b = some o → s'.heap.get? b = some o ∧ H' b = none := fun b hb o e =>
          let z := I'.pin (b, o) (List.mem_append_right _ (List.mem_append_right _ (mem_pinsAt hb e)))
          ⟨z.1, z.2.1⟩
        have hl : (wipe σ (own.map (·.2))).length = σ8.length := by rw [← hw8, wipe_length]
        refine ⟨m', hm, i + 1, H', (I'.unpinned (pins := [])).weak hl (fun j v e => ?_), T.keep _ _ _ st7 fun b hb o e => (pin' b hb o e).1, fun b hb => ?_, w'⟩
        · rw [← hw8] at e
          exact (wipe_some e).1
        · obtain ⟨o, e, _⟩ := T.obj _ _ st7 b hb
          exact (pin' b hb o e).2
      cases b with
      | false =>
        simp only [Bool.false_eq_true, if_false] at q9 ⊢
        exact fin I9 q9
      | true =>
        simp only [if_true] at q9 ⊢
        refine thnF (pe _ s9 σ8 H9 _ I9 q9) fun z s10 ⟨yv, H10, I10, r10, acc, hD10, hz10, nx⟩ => ?_
        exact app_ok (X := X.blk s3 H3 scope ce fp) I10 hD10 hz10 r10 fun s11 I11 => fin I11 nx
  exact codeAny_compStart_list loop (T.self X.A 0 _ _ _ st4 loop)
theorem pe_lc {elt tg iter : Expr} {ifs : List Expr} {scope : Scope} {own : List (Str × Nat)} {pos : Pos} {wi : TI} {g : TG} {tt : TT} {te : TE} (hc : X.calm = true) (hN : X.N.Nodup) (hi : PI X tg iter wi) (ok : BlkOk X.N X.env.scope scope own)
    (hg : ∀ (s : Shared) (H : Hp) (C : Addr) (cl : List (Str × Addr)) (fp : List Addr), PG (X.blk s H scope (compEnvC scope cl C X.env) fp) tg g) (ht : ∀ (s : Shared) (H : Hp) (C : Addr) (cl : List (Str × Addr)) (fp : List Addr), PTs (X.blk s H scope (compEnvC scope cl C X.env) fp) ifs tt)
    (he : ∀ (s : Shared) (H : Hp) (C : Addr) (cl : List (Str × Addr)) (fp : List Addr), PE (X.blk s H scope (compEnvC scope cl C X.env) fp) elt te) (hs : ∀ x, foldedSetIterable iter X.env x = pure x := by intro _; rfl) :
    PE X (.ListComp elt [⟨tg, iter, ifs, 0⟩] scope pos) (tLc wi g tt te (own.map (·.2))) := by
  intro pins s σ H Q I h
  rw [eval_ListComp]
  refine lc_core hc hN I hi ok hg ht he hs h fun D C s' m H' I' q hn f => ⟨m, hn, fun h'' sb => ?_⟩
  obtain ⟨f0, f1, f2, f3, f4, f5⟩ := f
  exact ⟨.ref D, H', I'.turned (t' := s'.toks) (fun b o hb e => (sb.2 b hb).trans e) f0 f1 f3 f4 f5, rfl, q⟩
end
theorem lc_range {lo : Int} {n : Nat} {g : TG} {tt : TT} {te : TE} {vs : List Nat} {σ : St} {H1 : Hp} {D : Addr} {Qd : Hp → Prop} (Pv : Nat → Hp → Prop) (h0 : Pv 0 (upd H1 D (.lst [])))
    (hs : ∀ i H, i < n → Pv i H → g (.int (lo + i)) (wipe σ vs) H fun σ2 H2 => wipe σ2 vs = wipe σ vs ∧ tt σ2 H2 fun b H3 =>
      if b = true then te σ2 H3 fun y H4 => ∃ acc, H4 D = some (.lst acc) ∧ acc.length < sizeLine ∧ Pv (i + 1) (upd H4 D (.lst (acc ++ [y]))) else Pv (i + 1) H3) (hd : ∀ H, Pv n H → Qd H) :
    ∃ W : Nat → Nat → Hp → Prop, (∃ m, W 0 m (upd H1 D (.lst []))) ∧ ∀ i m H, W i m H →
      ((Itr lo n).stop i H ∧ Qd H) ∨ ((Itr lo n).go i H ∧ ∃ Nx : Hp → Prop, (∀ H', Nx H' → ∃ m', m' < m ∧ W (i + 1) m' H') ∧ ∀ x H', (Itr lo n).yld i H x H' → g x (wipe σ vs) H' fun σ2 H2 => wipe σ2 vs = wipe σ vs ∧ tt σ2 H2 fun b H3 =>
        if b = true then te σ2 H3 fun y H4 => ∃ acc, H4 D = some (.lst acc) ∧ acc.length < sizeLine ∧ Nx (upd H4 D (.lst (acc ++ [y]))) else Nx H3) := by
  refine ⟨fun i m H => m = n - i ∧ i ≤ n ∧ Pv i H, ⟨n, by simp, Nat.zero_le _, h0⟩, ?_⟩
  rintro i m H ⟨rfl, hi, p⟩
  by_cases hlt : i < n
  · refine .inr ⟨hlt, Pv (i + 1), fun H' p' => ⟨n - (i + 1), by omega, rfl, hlt, p'⟩, fun x H' y => ?_⟩
    obtain ⟨e, y⟩ := y
    subst e y
    exact hs i _ hlt p
  · have e : i = n := by omega
    subst e
    exact .inl ⟨Nat.le_refl _, hd H p⟩
theorem lc_list {K : PySem.W.Frag} {a : Addr} {xs : List V} {g : TG} {tt : TT} {te : TE} {vs : List Nat} {σ : St} {H1 : Hp} {D : Addr} {Qd : Hp → Prop} (Pv : Nat → Hp → Prop) (h0 : Pv 0 (upd H1 D (.lst []))) (hl : ∀ i H, i ≤ xs.length → Pv i H → SqL K H a xs)
    (hs : ∀ i x H, xs[i]? = some x → Pv i H → g x (wipe σ vs) H fun σ2 H2 => wipe σ2 vs = wipe σ vs ∧ tt σ2 H2 fun b H3 =>
      if b = true then te σ2 H3 fun y H4 => ∃ acc, H4 D = some (.lst acc) ∧ acc.length < sizeLine ∧ Pv (i + 1) (upd H4 D (.lst (acc ++ [y]))) else Pv (i + 1) H3) (hd : ∀ H, Pv xs.length H → Qd H) :
    ∃ W : Nat → Nat → Hp → Prop, (∃ m, W 0 m (upd H1 D (.lst []))) ∧ ∀ i m H, W i m H →
      ((Itl K a).stop i H ∧ Qd H) ∨ ((Itl K a).go i H ∧ ∃ Nx : Hp → Prop, (∀ H', Nx H' → ∃ m', m' < m ∧ W (i + 1) m' H') ∧ ∀ x H', (Itl K a).yld i H x H' → g x (wipe σ vs) H' fun σ2 H2 => wipe σ2 vs = wipe σ vs ∧ tt σ2 H2 fun b H3 =>
        if b = true then te σ2 H3 fun y H4 => ∃ acc, H4 D = some (.lst acc) ∧ acc.length < sizeLine ∧ Nx (upd H4 D (.lst (acc ++ [y]))) else Nx H3) := by
  refine ⟨fun i m H => m = xs.length - i ∧ i ≤ xs.length ∧ Pv i H, ⟨xs.length, by simp, Nat.zero_le _, h0⟩, ?_⟩
  rintro i m H ⟨rfl, hi, p⟩
  have q := hl i H hi p
  by_cases hlt : i < xs.length
  · refine .inr ⟨⟨xs, xs[i], q, by simp [hlt]⟩, Pv (i + 1), fun H' p' => ⟨xs.length - (i + 1), by omega, rfl, hlt, p'⟩, fun x H' y => ?_⟩
    obtain ⟨e, y⟩ := y
    subst e
    exact hs i x _ (y xs q) p
  · have e : i = xs.length := by omega
    subst e
    exact .inl ⟨⟨xs, q, Nat.le_refl _⟩, hd H p⟩
noncomputable def blkC (N : List Str) (sc scope : Scope) (own : List (Str × Nat)) : Bool :=
  (match scope.kind with | .function => true | _ => false) && (scope.names.all fun y => decide (scope.names.lookup y.1 = some y.2)) && (own.all fun p => decide (N[p.2]? = some p.1)) &&
    (scope.names.all fun y => match y.2 with
      | .free => (match sc.names.lookup y.1 with | some .cell => true | some .free => true | _ => false)
      | .local => decide (y.1 ∈ own.map (·.1)) || decide (y.1 ∉ N)
      | .cell => decide (y.1 ∈ own.map (·.1)) || decide (y.1 ∉ N)
      | _ => true)
theorem blkOk_by {N : List Str} {sc scope : Scope} {own : List (Str × Nat)} (h : blkC N sc scope own = true) : BlkOk N sc scope own := by
  unfold blkC at h
  simp only [Bool.and_eq_true, List.all_eq_true, decide_eq_true_eq] at h
  obtain ⟨⟨⟨h1, h2⟩, h3⟩, h4⟩ := h
  refine ⟨?_, h2, h3, fun y hy e => ?_, fun y hy e => ?_⟩
  · split at h1
    · assumption
    · cases h1
  · have q := h4 y hy
    simp only [e] at q
    split at q <;> first | exact .inl (by assumption) | exact .inr (by assumption) | cases q
  · have q := h4 y hy
    rcases e with e | e <;> (simp only [e, Bool.or_eq_true, decide_eq_true_eq] at q; exact q)
end L2
namespace L2
open PySem PySem.Spec PyProof.Rows
section
variable {prog : Program} {w : World} {A : Around} {R : Result → Shared → Prop} {s : Shared} {elt t0 i0 t1 i1 : Expr} {ifs0 ifs1 : List Expr} {scope : Scope} {pos : Pos} {it acc : Value} {env : Env}
end
section
variable {X : Cx}
end
end L2
namespace L2
open PySem PySem.Spec PyProof.Rows
section
variable {κ : Type} [DecidableEq κ]
noncomputable def valV (kvs : List (κ × V)) (k : κ) : Option V := (kvs.find? fun kv => decide (kv.1 = k)).map (·.2)
noncomputable def putK (kvs : List (κ × V)) (k : κ) (v : V) : List (κ × V) :=
  if (kvs.any fun kv => decide (kv.1 = k)) = true then kvs.map (fun kv => if kv.1 = k then (kv.1, v) else kv) else kvs ++ [(k, v)]
noncomputable def dropK (kvs : List (κ × V)) (k : κ) : List (κ × V) := kvs.filter fun kv => decide (kv.1 ≠ k)

theorem valV_pos {p : κ × V} {r : List (κ × V)} {k : κ} (e : p.1 = k) : valV (p :: r) k = some p.2 := by simp [valV, List.find?_cons, e]
theorem valV_neg {p : κ × V} {r : List (κ × V)} {k : κ} (e : ¬ p.1 = k) : valV (p :: r) k = valV r k := by simp [valV, List.find?_cons, e]
theorem RelO.getD {o : Option V} {u : Option Value} {d : V} {d' : Value} (r : RelO o u) (rd : RelV d d') : RelV (o.getD d) (u.getD d') := by
  cases o with
  | none => cases u with
    | none => exact rd
    | some _ => exact (show False from r).elim
  | some _ => cases u with
    | none => exact (show False from r).elim
    | some _ => exact r

theorem KV.val {kvs : List (κ × V)} {vs : List (κ × Value)} (r : KV kvs vs) (k : κ) : RelO (valV kvs k) (valueAt vs k) := by
  unfold KV at r
  induction r with
  | nil => exact True.intro
  | @cons p q ps qs h t ih =>
    obtain ⟨h1, h2⟩ := h
    by_cases e : p.1 = k
    · have e' : q.1 = k := h1.symm.trans e
      have b : valueAt (q :: qs) k = some q.2 := by simp [valueAt, List.find?_cons, e']
      rw [valV_pos e, b]; exact h2
    · have e' : ¬ q.1 = k := fun z => e (h1.trans z)
      have b : valueAt (q :: qs) k = valueAt qs k := by simp [valueAt, List.find?_cons, e']
      rw [valV_neg e, b]; exact ih
theorem KV.any {kvs : List (κ × V)} {vs : List (κ × Value)} (r : KV kvs vs) (k : κ) : (kvs.any fun kv => decide (kv.1 = k)) = vs.any fun kv => decide (kv.1 = k) := by
  unfold KV at r
  induction r with
  | nil => rfl
  | cons h t ih => rw [List.any_cons, List.any_cons, ih, h.1]
theorem KV.drop {kvs : List (κ × V)} {vs : List (κ × Value)} (r : KV kvs vs) (k : κ) : KV (dropK kvs k) (without vs k) := by
  unfold KV at r ⊢
  unfold dropK without
  induction r with
  | nil => exact .nil
  | @cons p q ps qs h t ih =>
    obtain ⟨h1, h2⟩ := h
    rw [List.filter_cons, List.filter_cons]
    by_cases e : p.1 = k
    · have a : ¬ decide (p.1 ≠ k) = true := by simp [e]
      have b : ¬ decide (q.1 ≠ k) = true := by simp [h1.symm.trans e]
      rw [if_neg a, if_neg b]; exact ih
    · have e' : ¬ q.1 = k := fun z => e (h1.trans z)
      have a : decide (p.1 ≠ k) = true := by simp [e]
      have b : decide (q.1 ≠ k) = true := by simp [e']
      rw [if_pos a, if_pos b]; exact .cons ⟨h1, h2⟩ ih
theorem KV.keys {kvs : List (κ × V)} {vs : List (κ × Value)} (r : KV kvs vs) : kvs.map (·.1) = vs.map (·.1) := by
  unfold KV at r
  induction r with
  | nil => rfl
  | cons h t ih => rw [List.map_cons, List.map_cons, ih, h.1]
theorem KV.length {kvs : List (κ × V)} {vs : List (κ × Value)} (r : KV kvs vs) : kvs.length = vs.length := Paired.length r
end
noncomputable abbrev KT (H : Hp) : List (List Key × V) → List (List Key × Addr × Value) → Prop := Paired fun p q => p.1 = q.1 ∧ H q.2.1 = some (.tup (p.1.map kV)) ∧ RelV p.2 q.2.2
theorem KT.val {H : Hp} {kvs : List (List Key × V)} {xs : List (List Key × Addr × Value)} (r : KT H kvs xs) (k : List Key) : RelO (valV kvs k) ((atKey xs k).map (·.2)) := by
  induction r with
  | nil => exact True.intro
  | @cons p q ps qs h t ih =>
    obtain ⟨h1, _, h2⟩ := h
    by_cases e : p.1 = k
    · have e' : q.1 = k := h1.symm.trans e
      have b : atKey (q :: qs) k = some q.2 := by simp [atKey, List.find?_cons, e']
      rw [valV_pos e, b]; exact h2
    · have e' : ¬ q.1 = k := fun z => e (h1.trans z)
      have b : atKey (q :: qs) k = atKey qs k := by simp [atKey, List.find?_cons, e']
      rw [valV_neg e, b]; exact ih
theorem KT.keeps {H H' : Hp} {kvs : List (List Key × V)} {xs : List (List Key × Addr × Value)} (r : KT H kvs xs) (ht : ∀ b ys, H b = some (.tup ys) → H' b = some (.tup ys)) : KT H' kvs xs :=
  Paired.mapP r fun _ _ z => ⟨z.1, ht _ _ z.2.1, z.2.2⟩

section
variable {P : Program} {w : World} {H : Hp} {h : Heap} {a : Addr}
end
noncomputable def DGet (H : Hp) (a : Addr) (y : V) (r : Option V) : Prop :=
  (∃ kvs k, Rd H a (.dK kvs) ∧ y = kV k ∧ r = valV kvs k) ∨ ∃ kvs k b, Rd H a (.dT kvs) ∧ y = .ref b ∧ H b = some (.tup (k.map kV)) ∧ r = valV kvs k
noncomputable def DPut (H : Hp) (a : Addr) (y v : V) (H' : Hp) : Prop :=
  (∃ kvs k, H a = some (.dK kvs) ∧ y = kV k ∧ kvs.length < sizeLine ∧ H' = upd H a (.dK (putK kvs k v))) ∨
  ∃ kvs k b, H a = some (.dT kvs) ∧ y = .ref b ∧ H b = some (.tup (k.map kV)) ∧ kvs.length < sizeLine ∧ H' = upd H a (.dT (putK kvs k v))
theorem DGet.k {H : Hp} {a : Addr} {kvs : List (Key × V)} {k : Key} (e : H a = some (.dK kvs)) : DGet H a (kV k) (valV kvs k) := .inl ⟨kvs, k, .inl e, rfl, rfl⟩
theorem DGet.t {H : Hp} {a b : Addr} {kvs : List (List Key × V)} {k : List Key} (e : H a = some (.dT kvs)) (eb : H b = some (.tup (k.map kV))) : DGet H a (.ref b) (valV kvs k) := .inr ⟨kvs, k, b, .inl e, rfl, eb, rfl⟩
theorem DPut.k {H : Hp} {a : Addr} {kvs : List (Key × V)} {k : Key} {v : V} (e : H a = some (.dK kvs)) (hl : kvs.length < sizeLine) : DPut H a (kV k) v (upd H a (.dK (putK kvs k v))) := .inl ⟨kvs, k, e, rfl, hl, rfl⟩
theorem DPut.t {H : Hp} {a b : Addr} {kvs : List (List Key × V)} {k : List Key} {v : V} (e : H a = some (.dT kvs)) (eb : H b = some (.tup (k.map kV))) (hl : kvs.length < sizeLine) :
    DPut H a (.ref b) v (upd H a (.dT (putK kvs k v))) := .inr ⟨kvs, k, b, e, rfl, eb, hl, rfl⟩


section
variable {X : Cx} {pins : List (Addr × Obj)} {σ : St} {H : Hp} {s : Shared} {a : Addr} {y v : V} {u r : Value} {o : Option V} {A : Around} {E : Value → Shared → Prop}
end
section
variable {X : Cx} {pins : List (Addr × Obj)} {σ : St} {H : Hp} {s : Shared} {a : Addr} {kvs : List (Key × V)} {k : Key} {u : Value} {A : Around} {E : Value → Shared → Prop}
end
noncomputable def NoSl (i : Expr) : Prop := ∀ ov iv, subscripted i false ov iv = operate [ov, iv] (getItem ov iv)
theorem subD_of {prog : Program} {w : World} {A : Around} {E : Value → Shared → Prop} {s : Shared} {env : Env} {value slice : Expr} {pos : Pos} {T id : String} {Q : Value → Shared → Prop}
    (hl : typeLookup (.type T) "__getitem__" = pure (some (.builtin id))) (hs : NoSl slice)
    (h : wpAny (model prog w) A (eval value env) (fun o s₁ => wpAny (model prog w) A (eval slice env) (fun i s₂ => s₂.TypeIs o T ∧ wpAny (model prog w) A (getItem o i) Q E s₂) E s₁) E s) :
    wpAny (model prog w) A (eval (.Subscript value slice pos) env) Q E s := by
  refine Subscript_ (wpAny_mono h (fun o s₁ h₁ => wpAny_mono h₁ (fun i s₂ h₂ => ?_) fun _ _ x => x) fun _ _ x => x)
  obtain ⟨hT, h₂⟩ := h₂
  unfold subscriptTail
  refine wpAny_bind ?_
  rw [getitemInPython_of_ne hT.not_modules]
  refine wpAny_bind (wpAny_specialOf hT hl ?_)
  have fin : wpAny (model prog w) A (subscripted slice false o i) (fun r s₃ => wpAny (model prog w) A (letTemporaryGo value o r >>= fun _ => pure r) Q E s₃) E s₂ := by
    rw [hs o i]
    exact wpAny_operating (wpAny_mono h₂ (fun r s₃ h₃ => wpAny_bind (wpAny_letTemporaryGo (wpAny_pure h₃))) fun _ _ x => x)
  first
    | exact wpAny_pure (wpAny_bind fin)
    | exact wpAny_bind (wpAny_pure (wpAny_bind fin))
    | exact wpAny_bind fin

section
variable {X : Cx} {o i e value : Expr} {pos pos' tpos : Pos} {td ty tv : TE}
end
section
variable {X : Cx} {pos : Pos}
end
section
variable {X : Cx} {pins : List (Addr × Obj)} {σ : St} {H : Hp} {s : Shared} {a : Addr} {y d : V} {u r : Value} {o : Option V} {A : Around} {E : Value → Shared → Prop}
end
section
variable {X : Cx} {o e f : Expr} {apos cpos : Pos} {td ty tx : TE}
end
section
variable {X : Cx} {pins : List (Addr × Obj)} {σ : St} {H : Hp} {s : Shared} {a : Addr} {kvs : List (Key × V)} {A : Around} {E : Value → Shared → Prop}
end
section
variable {X : Cx} {pins : List (Addr × Obj)} {σ : St} {H : Hp} {s : Shared} {a : Addr} {y : V} {u : Value} {A : Around} {E : Value → Shared → Prop}
end
end L2
namespace L2
open PySem PySem.Spec PyProof.Rows
section
variable {prog : Program} {w : World} {A : Around} {E : Value → Shared → Prop}
end
section
variable {X : Cx}
end
end L2
namespace L2
open PySem PySem.Spec PyProof.Rows
section
variable {X : Cx} {pins : List (Addr × Obj)} {σ : St} {H : Hp} {s : Shared} {h' : Heap}
end
section
variable {X : Cx}
end
noncomputable def RgC (i j c : Int) (n : Nat) : Prop := c ≠ 0 ∧ c.natAbs < 1073741824 ∧ Builtin.Range.small i j c = true ∧ Builtin.Range.rangeSize i j c = n
theorem RgC.neg {i j : Int} (ha : -(2 ^ 62) ≤ i) (ha' : i < 2 ^ 62) (hb : -(2 ^ 62) ≤ j) (hb' : j < 2 ^ 62) : RgC i j (-1) (i - j).toNat :=
  ⟨by decide, by decide, PySem.W.small_down ha ha' hb hb', PySem.W.rangeSize_downNat i j⟩
section
variable {X : Cx} {tg : Expr}
end
section
variable {X : Cx} {tg : Expr}
end
section
variable {prog : Program} {w : World} {A : Around} {E : Value → Shared → Prop} {s : Shared}
end
section
variable {X : Cx} {pins : List (Addr × Obj)} {σ : St} {H : Hp} {s : Shared} {d : Addr} {o : Obj}
end
section
variable {P : Program} {w : World} {K : PySem.W.Frag} {tg : Expr} {d : Addr} {o : Obj} {es : Array DictEntry} {ep : Nat}
end
section
variable {X : Cx} {tg e : Expr} {td : TE} {apos cpos : Pos}
end
end L2
section 
namespace Bits
open PySem PyProof.Rows
end Bits
end 
section 
namespace TL
open PySem PySem.Builtin PySem.Builtin.Str PySem.StrLaws
noncomputable abbrev tl (x : Str) : List Nat := x.cps.toList
noncomputable def pre (S l : List Nat) : Bool := l.take S.length == S
noncomputable def par (S : List Nat) : List Nat → List Nat → Option (List Nat × List Nat)
  | _, [] => none
  | acc, c :: r => if pre S (c :: r) = true then some (acc, (c :: r).drop S.length) else par S (acc ++ [c]) r

end TL
end 
namespace L2
open PySem PySem.Spec PyProof.Rows
section
variable {X : Cx} {pins : List (Addr × Obj)} {σ : St} {H : Hp} {s : Shared} {Q : VK}
end
section
variable {X : Cx}
end
section
variable {X : Cx} {o e : Expr} {to te : TE}
end
end L2
namespace L2
open PySem PySem.Spec PyProof.Rows
section
variable {X : Cx}
end
theorem IsPart.raw {v : Value} {o : Option Int} (p : IsPart v o) : ∃ l : Option (Int × Tok), v = partValue l ∧ l.map (·.1) = o := by
  cases p with
  | none => exact ⟨none, rfl, rfl⟩
  | int i t => exact ⟨some (i, t), rfl, rfl⟩

end L2
namespace Att
open PySem PySem.W PySem.Calls PyProof.Rows
section
variable {prog : Program} {w : World} {A : Around} {E : Value → Shared → Prop} {s : Shared} {K : Frag}
end
end Att
namespace L2
open PySem PySem.Spec PyProof.Rows
end L2
namespace L2
open PySem PySem.Spec PyProof.Rows
end L2
namespace L2
open PySem PySem.Spec PyProof.Rows
noncomputable def inClass (s : Stmt) (j : Nat) : Stmt := match s with
  | .ClassDef _ _ _ body _ _ _ _ _ _ _ => body.getD j (.Pass ⟨0, 0, 0, 0⟩)
  | _ => .Pass ⟨0, 0, 0, 0⟩
noncomputable def defArgs (s : Stmt) : Arguments := match s with
  | .FunctionDef _ a _ _ _ _ _ _ _ _ => a
  | _ => { posonlyargs := [], args := [], vararg := none, kwonlyargs := [], kw_defaults := [], kwarg := none, defaults := [] }
noncomputable def defBody (s : Stmt) : List Stmt := match s with
  | .FunctionDef _ _ b _ _ _ _ _ _ _ => b
  | _ => []
noncomputable def defScope (s : Stmt) : Scope := match s with
  | .FunctionDef _ _ _ _ _ _ sc _ _ _ => sc
  | _ => { kind := .function, names := [], isGenerator := false, isCoroutine := false }

noncomputable abbrev CX0 : CXT := fun _ _ _ _ _ _ => False
noncomputable abbrev E0 : XK := fun _ _ _ => False
theorem pass0 {X : Cx} : Passes CX0 X E0 := fun _ _ _ _ _ _ _ h => h.elim

structure Fun (K : PySem.W.Frag) (x qual : Str) (st : Stmt) (f : Addr) (fd : FuncData) : Prop where
  ex : ∃ (oc : Value) (od : Option Addr) (kV doc pm : Value) (an : Option Addr) (cdv ct : Value) (osl : Array (Option Value)),
    fd = PySem.W.fnOf x qual (defArgs st) (defBody st) (defScope st) .none kV doc pm an cdv ct ∧ K.lookup f = some ⟨oc, od, .func fd, osl⟩ ∧ PySem.W.codeIn K cdv qual = true
  kp : PySem.W.keepIn K (.ref f) = true
section
variable {P : Program} {w : World} {K : PySem.W.Frag} {mg : Str → Option Value} {base : Heap}
theorem Fun.ok {x qual : Str} {st : Stmt} {f : Addr} {fd : FuncData} {N ps : List Str} {k : Nat} {sp : Sp} (F : Fun K x qual st f fd) (S : FnScope N ps (defScope st)) (len : ∀ vs H Q E, sp vs H Q E → vs.length = ps.length)
    (hbody : ∀ (cdv : Value) (A : Around) (outer : List Env) (s : Shared) (H : Hp) (vs : List V) (Q : VK) (E : XK), Room k (A.deeper (envOfC qual (defScope st) s.heap.objs.size f cdv)) → sp vs H Q E →
      ∃ t, PSs (cxOf CX0 P w K mg base N qual (defScope st) f cdv A outer s H E).nox (defBody st) t ∧ t { nx := fun _ H' => Q .non H', rt := Q } (start N vs) H) : FnOk P w K mg base CX0 (k + 1) f fd ps sp := by
  obtain ⟨oc, od, kV, doc, pm, an, cdv, ct, osl, rfl, lk, hcd⟩ := F.ex
  refine fn_of lk hcd S len fun A outer s H vs Q E hr hsp => ?_
  obtain ⟨t, h, q⟩ := hbody cdv A outer s H vs Q E hr hsp
  exact ⟨t, h.nox, q⟩
theorem Fun.binds {x qual : Str} {st : Stmt} {f : Addr} {fd : FuncData} {ps : List Str} (F : Fun K x qual st f fd)
    (h : ∀ (kV doc pm : Value) (an : Option Addr) (cdv ct : Value) (us : List Value), us.length = ps.length → bindArgs (PySem.W.fnOf x qual (defArgs st) (defBody st) (defScope st) .none kV doc pm an cdv ct) ⟨us, []⟩ = pure (ps.zip us)) : Binds K fd ps [] := by
  obtain ⟨oc, od, kV, doc, pm, an, cdv, ct, osl, rfl, lk, hcd⟩ := F.ex
  exact .all (h kV doc pm an cdv ct)
theorem fun_mk {x qual : Str} {st : Stmt} {f : Addr} {oc : Value} {od an : Option Addr} {osl : Array (Option Value)} {kV doc pm cdv ct : Value} (l : K.lookup f = some ⟨oc, od, .func (PySem.W.fnOf x qual (defArgs st) (defBody st) (defScope st) .none kV doc pm an cdv ct), osl⟩)
    (c : PySem.W.codeIn K cdv qual = true) (k : PySem.W.keepIn K (.ref f) = true) : Fun K x qual st f (PySem.W.fnOf x qual (defArgs st) (defBody st) (defScope st) .none kV doc pm an cdv ct) := ⟨⟨oc, od, kV, doc, pm, an, cdv, ct, osl, rfl, l, c⟩, k⟩
end
theorem hu_of {A : Around} {k : Nat} (hr : Room k A) : A.units + 1 < cLine := Nat.lt_of_le_of_lt (Nat.add_le_add_left (by decide : 1 ≤ 64) _) hr.units
section
variable {X : Cx}
theorem pv (i : Nat) {x : Str} {pos : Pos} (hN : X.N[i]? = some x := by rfl) (hv : Vis X.env.scope x := by first | exact Or.inl rfl | exact Or.inr (Or.inl rfl) | exact Or.inr (Or.inr rfl)) (hd : (x == ("__debug__" : Str)) = false := by decide)
    (hcd : (x == ("__classdict__" : Str)) = false := by decide) : PE X (.Name x pos) (tVar i) := pe_var hN hv hd hcd
end
theorem iteF {A B : Prop} (h : B) : if false = true then A else B := by
  rw [if_neg Bool.false_ne_true]
  exact h
theorem iteT {A B : Prop} (h : A) : if true = true then A else B := by
  rw [if_pos rfl]
  exact h
noncomputable def Same (H H' : Hp) : Prop := ∀ b o, H b = some o → H' b = some o
theorem Same.refl (H : Hp) : Same H H := fun _ _ h => h
theorem Same.trans {H H1 H2 : Hp} (a : Same H H1) (b : Same H1 H2) : Same H H2 := fun c o h => b c o (a c o h)
theorem Same.free {H H' : Hp} (e : Same H H') {l : Addr} (h : H' l = Option.none) : H l = Option.none := by
  cases q : H l with
  | none => rfl
  | some o =>
    rw [e l o q] at h
    cases h
theorem Same.seq {K : PySem.W.Frag} {H H' : Hp} {a : Addr} {xs : List V} (e : Same H H') (h : SqL K H a xs) : SqL K H' a xs := by
  rcases h with (h | ⟨o, h⟩) | h
  · exact .inl (.inl (e _ _ h))
  · exact .inl (.inr ⟨o, e _ _ h⟩)
  · exact .inr h

section
variable {κ : Type} [DecidableEq κ]
end
theorem at_of {xs : List V} {z : Int} {j : Nat} {v : V} (e : z = (j : Int)) (h : xs[j]? = some v) : atI xs z = some v := by
  rw [e]
  exact atI_nat h
theorem Same.made {H H1 : Hp} {x dx C : Addr} (nx : H x = Option.none) (nd : H dx = Option.none) (k : ∀ b o, (upd (upd H dx (.own x)) x (.ins C dx [])) b = some o → b ≠ x → H1 b = some o) : Same H H1 := fun b o e =>
  k b o (by rw [upd_ne (ne_of_none e nx), upd_ne (ne_of_none e nd)]; exact e) (ne_of_none e nx)
end L2
section
set_option Elab.async false
set_option linter.all false
set_option maxRecDepth 100000
set_option maxHeartbeats 2000000
namespace L2
open PySem PySem.Spec PyProof.Rows
open PySem.W (WData Codec OpenSpec Well WellAll ReadsW ReadsAllW)
mutual
/-- x stands for the datum d, lists and tuples all the way -/
inductive Dw (K : PySem.W.Frag) (H : Hp) : V → WData → Prop
  | non : Dw K H .non .none
  | bl (b : Bool) : Dw K H (.bl b) (.bool b)
  | int (i : Int) : Dw K H (.int i) (.int i)
  | str (x : Str) : Dw K H (.str x) (.str x)
  | byt (b : Array UInt8) : Dw K H (.byt b) (.bytes b.toList)
  | lst {a : Addr} {xs : List V} {ds : List WData} : SqL K H a xs → DwAll K H xs ds → Dw K H (.ref a) (.list ds)
  | tup {a : Addr} {xs : List V} {ds : List WData} : SqT K H a xs → DwAll K H xs ds → Dw K H (.ref a) (.tuple ds)
inductive DwAll (K : PySem.W.Frag) (H : Hp) : List V → List WData → Prop
  | nil : DwAll K H [] []
  | cons {v : V} {vs : List V} {d : WData} {ds : List WData} : Dw K H v d → DwAll K H vs ds → DwAll K H (v :: vs) (d :: ds)
end
theorem dw_ints {K : PySem.W.Frag} {H : Hp} : ∀ ns : List Int, DwAll K H (ns.map V.int) (ns.map WData.int)
  | [] => .nil
  | n :: r => .cons (.int n) (dw_ints r)
theorem ints_dw {K : PySem.W.Frag} {H : Hp} : ∀ (ns : List Int) (xs : List V), DwAll K H xs (ns.map WData.int) → xs = ns.map V.int
  | [], xs, h => by
    cases h
    rfl
  | n :: r, xs, h => by
    cases h with
    | cons h1 h2 =>
      cases h1
      rw [ints_dw r _ h2] <;> rfl
section
variable {P : Program} {w : World} {K : PySem.W.Frag} {H : Hp} {h : Heap} {R : PySem.W.WRecords} {cl : Str → Option Addr}
theorem sqL_at {a : Addr} {xs : List V} (hok : HOk P w H h) (KX : K.In h) (q : SqL K H a xs) : ∃ (its : List Value) (o : Obj) (n : Nat), Vals xs its ∧ h.get? a = some o ∧ o.cls = .type "list" ∧ o.data = .seq its.toArray n := by
  rcases q with q | ⟨o, its, n, e, hc, _, hd, _, hv⟩
  · obtain ⟨_, its, n, hv, e⟩ := (show ObjOk P w H h a (.lst xs) from q.ok hok)
    exact ⟨its, _, n, hv, e, rfl, rfl⟩
  · exact ⟨its.toList, o, n, hv, KX _ _ e, hc, by simp [hd]⟩
theorem sqT_at {a : Addr} {xs : List V} (hok : HOk P w H h) (KX : K.In h) (q : SqT K H a xs) : ∃ (its : List Value) (o : Obj) (n : Nat), Vals xs its ∧ h.get? a = some o ∧ o.cls = .type "tuple" ∧ o.data = .seq its.toArray n := by
  rcases q with q | ⟨o, its, n, e, hc, hd, _, hv⟩
  · obtain ⟨_, its, hv, o, e, hc, n, hd⟩ := (show ObjOk P w H h a (.tup xs) from q.ok hok)
    exact ⟨its, o, n, hv, e, hc, hd⟩
  · exact ⟨its.toList, o, n, hv, KX _ _ e, hc, by simp [hd]⟩
mutual
theorem Dw.reads (hok : HOk P w H h) (KX : K.In h) : ∀ (d : WData) (v : V) (u : Value), Dw K H v d → RelV v u → ∃ as, ReadsW R cl h u d as
  | .none, _, _, x, r => by
    cases x
    cases r
    exact ⟨_, ReadsW.none⟩
  | .bool b, _, _, x, r => by
    cases x
    cases r
    exact ⟨_, ReadsW.bool b⟩
  | .int i, _, _, x, r => by
    cases x
    obtain ⟨t, rfl⟩ := r
    exact ⟨_, ReadsW.int i t⟩
  | .str s, _, _, x, r => by
    cases x
    obtain ⟨t, rfl⟩ := r
    exact ⟨_, ReadsW.str s t⟩
  | .bytes b, _, _, x, r => by
    cases x
    obtain ⟨t, rfl⟩ := r
    exact ⟨_, ReadsW.bytes _ t⟩
  | .list ds, _, _, x, r => by
    cases x with
    | lst hs ha =>
      cases r
      obtain ⟨its, o, n, rv, ho, hc, hd⟩ := sqL_at hok KX hs
      obtain ⟨as, hr⟩ := Dw.readsAll hok KX ds _ its ha rv
      exact ⟨_, ReadsW.list ho hc hd hr⟩
  | .tuple ds, _, _, x, r => by
    cases x with
    | tup hs ha =>
      cases r
      obtain ⟨its, o, n, rv, ho, hc, hd⟩ := sqT_at hok KX hs
      obtain ⟨as, hr⟩ := Dw.readsAll hok KX ds _ its ha rv
      exact ⟨_, ReadsW.tuple ho hc hd hr⟩
  | .float _, _, _, x, _ => by cases x
  | .dict _, _, _, x, _ => by cases x
  | .bytearray _, _, _, x, _ => by cases x
  | .set _, _, _, x, _ => by cases x
  | .frozenset _, _, _, x, _ => by cases x
  | .obj _ _, _, _, x, _ => by cases x
theorem Dw.readsAll (hok : HOk P w H h) (KX : K.In h) : ∀ (ds : List WData) (vs : List V) (us : List Value), DwAll K H vs ds → Vals vs us → ∃ as, ReadsAllW R cl h us ds as
  | [], _, _, x, r => by
    cases x
    cases r
    exact ⟨_, ReadsAllW.nil⟩
  | d :: ds, _, _, x, r => by
    cases x with
    | cons h1 h2 =>
      cases r with
      | cons r1 r2 =>
        obtain ⟨as, q1⟩ := Dw.reads hok KX d _ _ h1 r1
        obtain ⟨bs, q2⟩ := Dw.readsAll hok KX ds _ _ h2 r2
        exact ⟨_, ReadsAllW.cons q1 q2⟩
end
end
mutual
/-- data that a codec tells -/
noncomputable def plW : WData → Bool
  | .none => true
  | .bool _ => true
  | .int _ => true
  | .str _ => true
  | .bytes _ => true
  | .list xs => plWs xs
  | .tuple xs => plWs xs
  | _ => false
noncomputable def plWs : List WData → Bool
  | [] => true
  | x :: r => plW x && plWs r
end
theorem plWs_map {α : Type} {f : α → WData} (h : ∀ a, plW (f a) = true) : ∀ l : List α, plWs (l.map f) = true
  | [] => rfl
  | x :: r => by
    show (plW (f x) && plWs (r.map f)) = true
    rw [h x, plWs_map h r] <;> rfl
theorem pl_enc : ∀ (c : Codec) (a : c.denote), plW (c.enc a) = true
  | .unit, _ => rfl
  | .bool, _ => rfl
  | .int _ _, _ => rfl
  | .nat _ _, _ => rfl
  | .u8, _ => rfl
  | .bytes _ _, _ => rfl
  | .text _ _ _ _, _ => rfl
  | .list _ _ c, a => plWs_map (fun x => pl_enc c x) a
  | .pair c d, a => by
    show (plW (c.enc a.1) && (plW (d.enc a.2) && true)) = true
    rw [pl_enc c a.1, pl_enc d a.2] <;> rfl
  | .triple c d e, a => by
    show (plW (c.enc a.1) && (plW (d.enc a.2.1) && (plW (e.enc a.2.2) && true))) = true
    rw [pl_enc c a.1, pl_enc d a.2.1, pl_enc e a.2.2] <;> rfl
  | .option c, none => rfl
  | .option c, some x => pl_enc c x
theorem pl_encAll : ∀ (cs : List Codec) (a : Codec.denoteAll cs), plWs (Codec.encAll cs a) = true
  | [], _ => rfl
  | c :: cs, a => by
    show (plW (c.enc a.1) && plWs (Codec.encAll cs a.2)) = true
    rw [pl_enc c a.1, pl_encAll cs a.2] <;> rfl
theorem weight_mem : ∀ {xs : List WData} {d : WData}, d ∈ xs → d.weight ≤ WData.weightAll xs
  | [], d, h => absurd h (by simp)
  | x :: r, d, h => by
    show d.weight ≤ x.weight + 1 + WData.weightAll r
    rcases List.mem_cons.mp h with e | m
    · rw [e]
      omega
    · have z := weight_mem m
      omega
noncomputable def toV : Value → V
  | .none => .non
  | .bool b => .bl b
  | .int i _ => .int i
  | .str x _ => .str x
  | .bytes b _ => .byt b
  | .ref a => .ref a
  | _ => .non
noncomputable def OkU (A : List Addr) : Value → Prop
  | .none => True
  | .bool _ => True
  | .int _ _ => True
  | .str _ _ => True
  | .bytes _ _ => True
  | .ref a => a ∈ A
  | _ => False
theorem OkU.mono {A B : List Addr} (h : ∀ a ∈ A, a ∈ B) : ∀ {u : Value}, OkU A u → OkU B u := fun {u} x => by
  cases u with
  | ref a => exact h a x
  | none => trivial
  | bool b => trivial
  | int i t => trivial
  | str s t => trivial
  | bytes b t => trivial
  | _ => exact False.elim x
theorem relV_toV {A : List Addr} {u : Value} (x : OkU A u) : RelV (toV u) u := by
  cases u with
  | ref a => rfl
  | none => rfl
  | bool b => rfl
  | int i t => exact ⟨t, rfl⟩
  | str s t => exact ⟨t, rfl⟩
  | bytes b t => exact ⟨t, rfl⟩
  | _ => exact False.elim x
theorem vals_toV {A : List Addr} : ∀ {vs : List Value}, (∀ u ∈ vs, OkU A u) → Vals (vs.map toV) vs
  | [], _ => .nil
  | u :: r, h => .cons (relV_toV (h u (List.mem_cons_self ..))) (vals_toV fun x hx => h x (List.mem_cons_of_mem _ hx))
noncomputable def ArgOb (h : Heap) (A : List Addr) (a : Addr) : Prop := ∃ vs : List Value, vs.length ≤ sizeLine ∧ (∀ u ∈ vs, OkU A u) ∧
  (h.get? a = some { cls := .type "list", data := .seq vs.toArray } ∨ h.get? a = some { cls := .type "tuple", data := .seq vs.toArray })
theorem ArgOb.mono {h : Heap} {A B : List Addr} {a : Addr} (k : ∀ a ∈ A, a ∈ B) (x : ArgOb h A a) : ArgOb h B a := by
  obtain ⟨vs, h1, h2, h3⟩ := x
  exact ⟨vs, h1, fun u hu => (h2 u hu).mono k, h3⟩
theorem wellAll_len {P : Params} {h : Heap} : ∀ {vs : List Value} {ds : List WData}, WellAll P h vs ds → vs.length = ds.length
  | _, _, .nil => rfl
  | _, _, .cons _ b => by
    show _ + 1 = _ + 1
    rw [wellAll_len b]
theorem well_list {P : Params} {h : Heap} {v : Value} {ds : List WData} (x : Well P h v (.list ds)) : ∃ (a : Addr) (vs : List Value), v = .ref a ∧ h.get? a = some { cls := .type "list", data := .seq vs.toArray } ∧ WellAll P h vs ds := by
  cases x with
  | list ho hall => exact ⟨_, _, rfl, ho, hall⟩
theorem well_tuple {P : Params} {h : Heap} {v : Value} {ds : List WData} (x : Well P h v (.tuple ds)) : ∃ (a : Addr) (vs : List Value), v = .ref a ∧ h.get? a = some { cls := .type "tuple", data := .seq vs.toArray } ∧ WellAll P h vs ds := by
  cases x with
  | tuple ho hall => exact ⟨_, _, rfl, ho, hall⟩
theorem well_cons {P : Params} {h : Heap} {us : List Value} {d : WData} {ds : List WData} (x : WellAll P h us (d :: ds)) : ∃ (v : Value) (vs : List Value), us = v :: vs ∧ Well P h v d ∧ WellAll P h vs ds := by
  cases x with
  | cons a b => exact ⟨_, _, rfl, a, b⟩
theorem line_of {n : Nat} (h : n ≤ 1048576) : n ≤ sizeLine := Nat.le_trans h (by decide)
section
variable {P : Params} {h : Heap}
mutual
theorem area_one : ∀ (d : WData) (v : Value), Well P h v d → plW d = true → d.weight ≤ 1048576 → ∃ A : List Addr, OkU A v ∧ ∀ a ∈ A, ArgOb h A a
  | .none, _, x, _, _ => by
    cases x
    exact ⟨[], trivial, fun a m => absurd m (by simp)⟩
  | .bool b, _, x, _, _ => by
    cases x
    exact ⟨[], trivial, fun a m => absurd m (by simp)⟩
  | .int i, _, x, _, _ => by
    cases x
    exact ⟨[], trivial, fun a m => absurd m (by simp)⟩
  | .str s, _, x, _, _ => by
    cases x
    exact ⟨[], trivial, fun a m => absurd m (by simp)⟩
  | .bytes b, _, x, _, _ => by
    cases x
    exact ⟨[], trivial, fun a m => absurd m (by simp)⟩
  | .list ds, _, x, p, z => by
    obtain ⟨a, vs, rfl, ho, hall⟩ := well_list x
    have z2 : WData.weightAll ds ≤ 1048576 := z
    obtain ⟨A, h1, h2⟩ := area_all ds _ hall p fun d hd => Nat.le_trans (weight_mem hd) z2
    have k : ∀ b ∈ A, b ∈ a :: A := fun b hb => List.mem_cons_of_mem _ hb
    refine ⟨a :: A, List.mem_cons_self .., fun b hb => ?_⟩
    rcases List.mem_cons.mp hb with e | m
    · rw [e]
      exact ⟨vs, line_of (by rw [wellAll_len hall]; exact Nat.le_trans (PySem.W.length_le_weightAllW ds) z2), fun u hu => (h1 u hu).mono k, .inl ho⟩
    · exact (h2 b m).mono k
  | .tuple ds, _, x, p, z => by
    obtain ⟨a, vs, rfl, ho, hall⟩ := well_tuple x
    have z2 : WData.weightAll ds ≤ 1048576 := z
    obtain ⟨A, h1, h2⟩ := area_all ds _ hall p fun d hd => Nat.le_trans (weight_mem hd) z2
    have k : ∀ b ∈ A, b ∈ a :: A := fun b hb => List.mem_cons_of_mem _ hb
    refine ⟨a :: A, List.mem_cons_self .., fun b hb => ?_⟩
    rcases List.mem_cons.mp hb with e | m
    · rw [e]
      exact ⟨vs, line_of (by rw [wellAll_len hall]; exact Nat.le_trans (PySem.W.length_le_weightAllW ds) z2), fun u hu => (h1 u hu).mono k, .inr ho⟩
    · exact (h2 b m).mono k
  | .float _, _, _, p, _ => Bool.noConfusion (show false = true from p)
  | .dict _, _, _, p, _ => Bool.noConfusion (show false = true from p)
  | .bytearray _, _, _, p, _ => Bool.noConfusion (show false = true from p)
  | .set _, _, _, p, _ => Bool.noConfusion (show false = true from p)
  | .frozenset _, _, _, p, _ => Bool.noConfusion (show false = true from p)
  | .obj _ _, _, _, p, _ => Bool.noConfusion (show false = true from p)
theorem area_all : ∀ (ds : List WData) (vs : List Value), WellAll P h vs ds → plWs ds = true → (∀ d ∈ ds, d.weight ≤ 1048576) → ∃ A : List Addr, (∀ u ∈ vs, OkU A u) ∧ ∀ a ∈ A, ArgOb h A a
  | [], _, x, _, _ => by
    cases x
    exact ⟨[], fun u m => absurd m (by simp), fun a m => absurd m (by simp)⟩
  | d :: ds, _, x, p, z => by
    obtain ⟨v, vs, rfl, x1, x2⟩ := well_cons x
    have q : plW d = true ∧ plWs ds = true := Bool.and_eq_true_iff.mp p
    obtain ⟨A, a1, a2⟩ := area_one d v x1 q.1 (z d (List.mem_cons_self ..))
    obtain ⟨B, b1, b2⟩ := area_all ds vs x2 q.2 fun e he => z e (List.mem_cons_of_mem _ he)
    have kA : ∀ b ∈ A, b ∈ A ++ B := fun b hb => List.mem_append.mpr (.inl hb)
    have kB : ∀ b ∈ B, b ∈ A ++ B := fun b hb => List.mem_append.mpr (.inr hb)
    refine ⟨A ++ B, fun u hu => ?_, fun b hb => ?_⟩
    · rcases List.mem_cons.mp hu with e | m
      · rw [e]
        exact a1.mono kA
      · exact (b1 u m).mono kB
    · rcases List.mem_append.mp hb with m | m
      · exact (a2 b m).mono kA
      · exact (b2 b m).mono kB
end
end
noncomputable def hoOf (o : Obj) : Option HO := match o.data with
  | .seq vs _ => if (o.cls == Value.type "list") = true then some (.frz o (.lst (vs.toList.map toV))) else some (.frz o (.tup (vs.toList.map toV)))
  | _ => none
noncomputable def argH (K : PySem.W.Frag) (h : Heap) (A : List Addr) : Hp := fun b => if b ∈ A then (if (K.lookup b).isNone = true then (h.get? b).bind hoOf else none) else none
noncomputable def OnlyF (H : Hp) : Prop := ∀ b, H b = none ∨ ∃ o u, H b = some (.frz o u)
theorem hoOf_lst (vs : List Value) : hoOf { cls := .type "list", data := .seq vs.toArray } = some (.frz { cls := .type "list", data := .seq vs.toArray } (.lst (vs.map toV))) := by
  show (if (Value.type "list" == Value.type "list") = true then some (HO.frz { cls := .type "list", data := .seq vs.toArray } (.lst (vs.toArray.toList.map toV))) else some (HO.frz { cls := .type "list", data := .seq vs.toArray } (.tup (vs.toArray.toList.map toV)))) = _
  rw [if_pos (beq_self_eq_true _)]
theorem hoOf_tup (vs : List Value) : hoOf { cls := .type "tuple", data := .seq vs.toArray } = some (.frz { cls := .type "tuple", data := .seq vs.toArray } (.tup (vs.map toV))) := by
  show (if (Value.type "tuple" == Value.type "list") = true then some (HO.frz { cls := .type "tuple", data := .seq vs.toArray } (.lst (vs.toArray.toList.map toV))) else some (HO.frz { cls := .type "tuple", data := .seq vs.toArray } (.tup (vs.toArray.toList.map toV)))) = _
  rw [if_neg (by decide)]
section
variable {P : Program} {w : World} {K : PySem.W.Frag} {h : Heap} {A : List Addr}
theorem argH_at {b : Addr} {o : Obj} (hb : b ∈ A) (hk : K.lookup b = none) (e : h.get? b = some o) : argH K h A b = hoOf o := by
  unfold argH
  rw [if_pos hb, hk, if_pos (show (none : Option Obj).isNone = true from rfl), e] <;> rfl
theorem of_argH {b : Addr} {u : HO} (q : argH K h A b = some u) : b ∈ A ∧ K.lookup b = none := by
  unfold argH at q
  by_cases hb : b ∈ A
  · rw [if_pos hb] at q
    cases hk : K.lookup b with
    | none => exact ⟨hb, rfl⟩
    | some o =>
      rw [hk, if_neg (by simp)] at q
      cases q
  · rw [if_neg hb] at q
    cases q
theorem argH_is (ar : ∀ a ∈ A, ArgOb h A a) {b : Addr} {u : HO} (q : argH K h A b = some u) : K.lookup b = none ∧ ∃ vs : List Value, vs.length ≤ sizeLine ∧ (∀ u ∈ vs, OkU A u) ∧
    ((h.get? b = some { cls := .type "list", data := .seq vs.toArray } ∧ u = .frz { cls := .type "list", data := .seq vs.toArray } (.lst (vs.map toV))) ∨
     (h.get? b = some { cls := .type "tuple", data := .seq vs.toArray } ∧ u = .frz { cls := .type "tuple", data := .seq vs.toArray } (.tup (vs.map toV)))) := by
  obtain ⟨hb, hk⟩ := of_argH q
  obtain ⟨vs, h1, h2, h3⟩ := ar b hb
  refine ⟨hk, vs, h1, h2, ?_⟩
  rcases h3 with e | e
  · rw [argH_at hb hk e, hoOf_lst] at q
    exact .inl ⟨e, (Option.some.inj q).symm⟩
  · rw [argH_at hb hk e, hoOf_tup] at q
    exact .inr ⟨e, (Option.some.inj q).symm⟩
theorem argH_only (ar : ∀ a ∈ A, ArgOb h A a) : OnlyF (argH K h A) := fun b => by
  cases q : argH K h A b with
  | none => exact .inl rfl
  | some u =>
    obtain ⟨_, vs, _, _, ⟨_, e⟩ | ⟨_, e⟩⟩ := argH_is ar q
    · exact .inr ⟨_, _, by rw [e]⟩
    · exact .inr ⟨_, _, by rw [e]⟩
theorem argH_ok (ar : ∀ a ∈ A, ArgOb h A a) : HOk P w (argH K h A) h := fun b u q => by
  obtain ⟨_, vs, h1, h2, ⟨e, rfl⟩ | ⟨e, rfl⟩⟩ := argH_is ar q
  · exact ⟨e, by rw [List.length_map]; exact h1, vs, _, vals_toV h2, e⟩
  · exact ⟨e, by rw [List.length_map]; exact h1, vs, vals_toV h2, _, e, rfl, _, rfl⟩
theorem seq_inj {c c' : Value} {vs us : List Value} (e : (some { cls := c, data := .seq vs.toArray } : Option Obj) = some { cls := c', data := .seq us.toArray }) : c = c' ∧ vs = us := by
  have e1 := Option.some.inj e
  have e2 : c = c' := congrArg Obj.cls e1
  have e3 : Data.seq vs.toArray = Data.seq us.toArray := congrArg Obj.data e1
  injection e3 with e4
  refine ⟨e2, ?_⟩
  have e5 := congrArg Array.toList e4
  simpa using e5
theorem argL (KX : K.In h) (ar : ∀ a ∈ A, ArgOb h A a) {a : Addr} {vs : List Value} (ha : a ∈ A) (e : h.get? a = some { cls := .type "list", data := .seq vs.toArray }) : (∀ u ∈ vs, OkU A u) ∧ SqL K (argH K h A) a (vs.map toV) := by
  obtain ⟨us, h1, h2, h3⟩ := ar a ha
  have hu : us = vs := by
    rcases h3 with q | q
    · rw [e] at q
      exact (seq_inj q).2.symm
    · rw [e] at q
      exact absurd (Value.type.inj (seq_inj q).1) (by decide)
  subst hu
  refine ⟨h2, ?_⟩
  cases hk : K.lookup a with
  | none => exact .inl (.inr ⟨_, by rw [argH_at ha hk e, hoOf_lst]⟩)
  | some o =>
    have e2 := KX a o hk
    rw [e] at e2
    obtain rfl := Option.some.inj e2
    exact .inr ⟨_, us.toArray, _, hk, rfl, rfl, rfl, by rw [List.size_toArray]; exact h1, by simpa using vals_toV h2⟩
theorem argT (KX : K.In h) (ar : ∀ a ∈ A, ArgOb h A a) {a : Addr} {vs : List Value} (ha : a ∈ A) (e : h.get? a = some { cls := .type "tuple", data := .seq vs.toArray }) : (∀ u ∈ vs, OkU A u) ∧ SqT K (argH K h A) a (vs.map toV) := by
  obtain ⟨us, h1, h2, h3⟩ := ar a ha
  have hu : us = vs := by
    rcases h3 with q | q
    · rw [e] at q
      exact absurd (Value.type.inj (seq_inj q).1) (by decide)
    · rw [e] at q
      exact (seq_inj q).2.symm
  subst hu
  refine ⟨h2, ?_⟩
  cases hk : K.lookup a with
  | none => exact .inl (.inr ⟨_, by rw [argH_at ha hk e, hoOf_tup]⟩)
  | some o =>
    have e2 := KX a o hk
    rw [e] at e2
    obtain rfl := Option.some.inj e2
    exact .inr ⟨_, us.toArray, _, hk, rfl, rfl, by rw [List.size_toArray]; exact h1, by simpa using vals_toV h2⟩
mutual
theorem dw_one {Pm : Params} (KX : K.In h) (ar : ∀ a ∈ A, ArgOb h A a) : ∀ (d : WData) (v : Value), Well Pm h v d → plW d = true → OkU A v → Dw K (argH K h A) (toV v) d
  | .none, _, x, _, _ => by
    cases x
    exact .non
  | .bool b, _, x, _, _ => by
    cases x
    exact .bl b
  | .int i, _, x, _, _ => by
    cases x
    exact .int i
  | .str s, _, x, _, _ => by
    cases x
    exact .str s
  | .bytes b, _, x, _, _ => by
    cases x
    have z := Dw.byt (K := K) (H := argH K h A) b.toArray
    exact z
  | .list ds, _, x, p, hu => by
    obtain ⟨a, vs, rfl, ho, hall⟩ := well_list x
    obtain ⟨h2, hs⟩ := argL KX ar hu ho
    exact .lst hs (dw_all KX ar ds _ hall p h2)
  | .tuple ds, _, x, p, hu => by
    obtain ⟨a, vs, rfl, ho, hall⟩ := well_tuple x
    obtain ⟨h2, hs⟩ := argT KX ar hu ho
    exact .tup hs (dw_all KX ar ds _ hall p h2)
  | .float _, _, _, p, _ => Bool.noConfusion (show false = true from p)
  | .dict _, _, _, p, _ => Bool.noConfusion (show false = true from p)
  | .bytearray _, _, _, p, _ => Bool.noConfusion (show false = true from p)
  | .set _, _, _, p, _ => Bool.noConfusion (show false = true from p)
  | .frozenset _, _, _, p, _ => Bool.noConfusion (show false = true from p)
  | .obj _ _, _, _, p, _ => Bool.noConfusion (show false = true from p)
theorem dw_all {Pm : Params} (KX : K.In h) (ar : ∀ a ∈ A, ArgOb h A a) : ∀ (ds : List WData) (vs : List Value), WellAll Pm h vs ds → plWs ds = true → (∀ u ∈ vs, OkU A u) → DwAll K (argH K h A) (vs.map toV) ds
  | [], _, x, _, _ => by
    cases x
    exact .nil
  | d :: ds, _, x, p, hu => by
    obtain ⟨v, vs, rfl, x1, x2⟩ := well_cons x
    have q : plW d = true ∧ plWs ds = true := Bool.and_eq_true_iff.mp p
    exact .cons (dw_one KX ar d v x1 q.1 (hu _ (List.mem_cons_self ..))) (dw_all KX ar ds vs x2 q.2 fun u m => hu u (List.mem_cons_of_mem _ m))
end
end
theorem spec_call {P : Program} {w : World} {K : PySem.W.Frag} {mg mb : Str → Option Value} {CX : CXT} {k : Nat} {fa : Addr} {fd : FuncData} {ps : List Str} {sp : Sp} {s₁ : Shared} {vals : List Value} {ds : List WData} {R : PySem.W.WRecords} {cl : Str → Option Addr} {d0 : WData}
    (KX : K.In s₁.heap) (hns : s₁.heap.Ns mainGlobals mg) (hb : s₁.heap.Ns builtinsNs mb) (hbb : ∀ x : Str, x ≠ "__name__" → mb x = bootBuiltins x) (hlim : s₁.heap.NoLimit) (hg : s₁.gens = #[])
    (hwl : WellAll w.params s₁.heap vals ds) (hpl : plWs ds = true) (hwt : ∀ d ∈ ds, d.weight ≤ 1048576) (hr : Room k callerA)
    (F : ∀ base : Heap, K.In base → base.Ns mainGlobals mg → FnOk P w K mg base CX k fa fd ps sp) (hbind : ∀ (s : Shared) (us : List Value), us.length = ps.length → BindsTo s fd ⟨us, []⟩ (ps.zip us)) (hlen : ds.length = ps.length)
    (hsp : ∀ (H : Hp) (xs : List V), OnlyF H → DwAll K H xs ds → sp xs H (fun v H' => Dw K H' v d0) fun _ _ _ => False)
    (hCX : ∀ H e s', CX [] H s₁ (fun _ _ _ => False) e s' → False) :
    codeAny (model P w) callerA (.call (.ref fa) ⟨vals, []⟩) (fun r s' => ∃ u as, r = .ok (.ret u) ∧ ReadsW R cl s'.heap u d0 as ∧ OldK s₁.heap s'.heap ∧ s'.os = s₁.os ∧ AllBare s'.gens) s₁ := by
  obtain ⟨A, ho, ar⟩ := area_all ds vals hwl hpl hwt
  have hO : OnlyF (argH K s₁.heap A) := argH_only ar
  have hok : HOk P w (argH K s₁.heap A) s₁.heap := argH_ok ar
  have hS := dw_all KX ar ds vals hwl hpl ho
  have hV := vals_toV ho
  have hK : ∀ b u, argH K s₁.heap A b = some u → K.lookup b = none := fun b u q => (argH_is ar q).1
  have noA : ∀ {b : Addr} {o : Obj} {es : Array DictEntry} {ep : Nat}, s₁.heap.get? b = some o → o.data = .dict es ep → argH K s₁.heap A b = none := fun {b o es ep} e d => by
    cases q : argH K s₁.heap A b with
    | none => rfl
    | some u =>
      obtain ⟨_, vs, _, _, ⟨e2, _⟩ | ⟨e2, _⟩⟩ := argH_is ar q
      · rw [e2] at e
        cases e
        have d' : Data.seq vs.toArray _ = Data.dict es ep := d
        cases d'
      · rw [e2] at e
        cases e
        have d' : Data.seq vs.toArray _ = Data.dict es ep := d
        cases d'
  generalize argH K s₁.heap A = H at hO hok hS hK noA
  have base_of : ∀ {b : Addr} {o : Obj}, s₁.heap.get? b = some o → H b = none → (hidT s₁.heap H).get? b = some o := fun e n => hidT_get e n
  have nsK : ∀ {b : Addr} {m : Str → Option Value}, s₁.heap.Ns b m → (hidT s₁.heap H).Ns b m := fun {b m} ⟨o, es, ep, e, d, r⟩ => ⟨o, es, ep, base_of e (noA e d), d, r⟩
  have nK : ∀ b o, K.lookup b = some o → H b = none := fun b o e => by
    cases q : H b with
    | none => rfl
    | some u =>
      rw [hK b u q] at e
      cases e
  have hKb : K.In (hidT s₁.heap H) := fun b o e => base_of (KX b o e) (nK b o e)
  have hM : Mod K mg (hidT s₁.heap H) := ⟨hKb, nsK hns, ⟨mb, nsK hb, hbb⟩, let ⟨mc, h1, h2⟩ := hlim; ⟨mc, nsK h1, h2⟩⟩
  have e0 : Env0 P w K mg (hidT s₁.heap H) callerA [] s₁ H := ⟨rfl, hM, fun b o e => of_hidT e, Nat.le_of_eq (hidT_size _ _), trivial, fun b hb => absurd (show b ∈ ([] : List Addr) from hb) (by simp), hok, .of_eq hg⟩
  have hl : vals.length = ps.length := by rw [wellAll_len hwl]; exact hlen
  refine codeAny_mono ((F _ hKb (nsK hns)).run callerA [] s₁ H ⟨vals, []⟩ vals (vals.map toV) _ _ hr e0 (hbind s₁ vals hl) hV (hsp H _ hO hS)) fun r s' x => ?_
  cases r with
  | error e => exact (hCX H e s' x).elim
  | ok fl =>
    cases fl with
    | next => exact False.elim x
    | brk => exact False.elim x
    | cont => exact False.elim x
    | ret u =>
      obtain ⟨v, H', os, bare, un, hok', r', q⟩ := x
      have kept : ∀ b o, s₁.heap.get? b = some o → s'.heap.get? b = some o := fun b o e => by
        cases q2 : H b with
        | none => exact un.keep b o e q2 (by intro z; exact absurd (show b ∈ ([] : List Addr) from z) (by simp)) (by simp)
        | some u2 =>
          rcases hO b with z | ⟨ob, u3, z⟩
          · rw [q2] at z
            cases z
          · have z2 := un.frzs b ob _ z
            obtain ⟨e1, _⟩ := hok b _ z
            obtain ⟨e2, _⟩ := hok' b _ z2
            rw [e] at e1
            cases e1
            exact e2
      have KX' : K.In s'.heap := fun b o e => kept b o (KX b o e)
      obtain ⟨as, hrd⟩ := Dw.reads (R := R) (cl := cl) hok' KX' d0 v u q r'
      exact ⟨u, as, rfl, hrd, OldK.of_keep kept, os, bare⟩
theorem layable_weight {ds : List WData} (h : WData.layableAll ds = true) : ∀ d ∈ ds, d.weight ≤ 1048576 := fun d hd =>
  (PySem.W.layableW_iff.mp (List.all_eq_true.mp h d hd)).2.2
theorem encAll_len : ∀ (cs : List Codec) (a : Codec.denoteAll cs), (Codec.encAll cs a).length = cs.length
  | [], _ => rfl
  | c :: cs, a => by
    show (Codec.encAll cs a.2).length + 1 = cs.length + 1
    rw [encAll_len cs a.2]
theorem walk_spec {r : OpenSpec} {k : Nat} {q : Program} {loose : List Str} {XP : (Str → Option Value) → Heap → Prop} {YP : World → Heap → Prop} {d : DefRec} {K : Params → PySem.W.Frag} {CX : World → CXT} {ps : List Str} {sp : World → Sp}
    (hwell : r.wellSaid = true) (hdf : d.params.defaults = []) (hlen : r.args.length = ps.length) (hr : Room k callerA)
    (hY : ∀ (w : World) (h : Heap), YP w h → (K w.params).In h)
    (F : ∀ (w : World) (mg : Str → Option Value) (fa : Addr) (h : Heap), YP w h → (K w.params).In h → h.Ns mainGlobals mg → mg d.name = some (.ref fa) →
      ∃ fd : FuncData, (∀ (s : Shared) (us : List Value), us.length = ps.length → BindsTo s fd ⟨us, []⟩ (ps.zip us)) ∧
        ∀ base : Heap, (K w.params).In base → base.Ns mainGlobals mg → FnOk r.prog w (K w.params) mg base (CX w) k fa fd ps (sp w))
    (hsp : ∀ (w : World) (H : Hp) (xs : List V) (a : Codec.denoteAll r.args), OnlyF H → Codec.withinAll r.args a = true → Codec.app r.args r.asked a = true → DwAll (K w.params) H xs (Codec.encAll r.args a) →
      sp w xs H (fun v H' => Dw (K w.params) H' v (r.ret.enc (Codec.app r.args r.f a))) fun _ _ _ => False)
    (hCX : ∀ (w : World) (H : Hp) (s : Shared) (e : Value) (s' : Shared), CX w [] H s (fun _ _ _ => False) e s' → False) :
    PySem.W.WalkOS q loose XP YP r d [] (fun f vs => PySem.call f vs) := by
  intro w s_0 s₁ mg mb G Y fa o pm cd doc dV kV ho hd hcd hD hmg hg args vals as hpre hlay hrd hwl hlo
  obtain ⟨a, e1, e2⟩ := PySem.W.os_pre_some hpre
  obtain ⟨e3, hwi⟩ := Codec.encAll_of_decAll r.args args a e1
  subst e3
  have KX := hY w _ Y
  obtain ⟨fd, hb, hF⟩ := F w mg fa _ Y KX G.T.g hmg
  refine PySem.W.enter_call (codeAny_mono (spec_call (R := []) (cl := classAt s_0.heap) (d0 := r.ret.enc (Codec.app r.args r.f a)) KX G.T.g G.T.b G.T.builtins G.T.nolimit hg hwl (pl_encAll _ _) (layable_weight hlay) hr hF hb (by rw [encAll_len]; exact hlen)
    (fun H xs hO hS => hsp w H xs a hO hwi e2 hS) fun H e s' => hCX w H s₁ e s') fun r' s' hq => ?_)
  obtain ⟨u, as', rfl, h1, h2, h3, h4⟩ := hq
  exact ⟨.inl ⟨u, _, as', rfl, fun _ => rfl, h1, (OpenSpec.post_iff hwell hwi _ _).mpr rfl, fun z => Bool.noConfusion (show false = true from z)⟩, h2, h3, h4⟩
theorem walk_specK {r : OpenSpec} {k : Nat} {q : Program} {loose : List Str} {XP : (Str → Option Value) → Heap → Prop} {YP : World → Heap → Prop} {d : DefRec} {K : Params → PySem.W.Frag} {CX : CXT} {ps : List Str} {sp : PySem.W.Frag → Sp}
    (hwell : r.wellSaid = true) (hdf : d.params.defaults = []) (hlen : r.args.length = ps.length) (hr : Room k callerA)
    (hY : ∀ (w : World) (h : Heap), YP w h → (K w.params).In h)
    (F : ∀ (w : World) (mg : Str → Option Value) (fa : Addr) (h : Heap), YP w h → (K w.params).In h → h.Ns mainGlobals mg → mg d.name = some (.ref fa) →
      ∃ fd : FuncData, (∀ (s : Shared) (us : List Value), us.length = ps.length → BindsTo s fd ⟨us, []⟩ (ps.zip us)) ∧
        ∀ base : Heap, (K w.params).In base → base.Ns mainGlobals mg → FnOk r.prog w (K w.params) mg base CX k fa fd ps (sp (K w.params)))
    (hsp : ∀ (K : PySem.W.Frag) (H : Hp) (xs : List V) (a : Codec.denoteAll r.args), OnlyF H → Codec.withinAll r.args a = true → Codec.app r.args r.asked a = true → DwAll K H xs (Codec.encAll r.args a) →
      sp K xs H (fun v H' => Dw K H' v (r.ret.enc (Codec.app r.args r.f a))) fun _ _ _ => False)
    (hCX : ∀ (H : Hp) (s : Shared) (e : Value) (s' : Shared), CX [] H s (fun _ _ _ => False) e s' → False) :
    PySem.W.WalkOS q loose XP YP r d [] (fun f vs => PySem.call f vs) :=
  walk_spec (K := K) (CX := fun _ => CX) (sp := fun w => sp (K w.params)) hwell hdf hlen hr hY F (fun w H xs a h1 h2 h3 h4 => hsp (K w.params) H xs a h1 h2 h3 h4) fun _ H s e s' => hCX H s e s'
end L2
end

section
namespace L2
open PySem PySem.Spec PyProof.Rows
theorem Sz.bits {n : Nat} {i : Int} (h : Sz n i) : Builtin.Int.intBits i ≤ n := by
  unfold Sz at h
  unfold Builtin.Int.intBits
  split
  · exact Nat.zero_le _
  · rename_i c
    have c0 : i ≠ 0 := by simpa using c
    have : i.natAbs.log2 < n := (Nat.log2_lt (by omega)).mpr h
    omega
noncomputable def CMulB (i j : Int) : Prop := ∃ m n, Sz m i ∧ Sz n j ∧ m + n ≤ 100000000
noncomputable def CDivB (_i j : Int) : Prop := 0 < j ∧ j.natAbs.log2 < 9000
noncomputable def CShlB (i j : Int) : Prop := 0 ≤ j ∧ ∃ m : Nat, Sz m i ∧ (m : Int) + j ≤ 100000000
theorem CMulB.ok {i j : Int} (h : CMulB i j) : IntMulOk i j := by
  obtain ⟨m, n, h1, h2, h3⟩ := h
  exact IntMulOk.of_le h1.bits h2.bits (by omega)
section
variable {X : Cx}
theorem op_mulB : OpR X (binaryOp .Mult) (rI CMulB fun i j => .int (i * j)) := opI fun _ _ _ _ _ _ _ hc q => mul_int q hc.ok
theorem op_fdivB : OpR X (binaryOp .FloorDiv) (rI CDivB fun i j => .int (i / j)) := opI fun i j _ _ _ _ _ hc q => by
  have h1 : (0 : Int) < j := hc.1
  exact floordiv_int (by omega) (by rw [Int.fdiv_eq_ediv_of_nonneg i (by omega)]; exact q) (.inl (PyProof.noPylong_of_log2 hc.2))
theorem op_shlB : OpR X (binaryOp .LShift) (rI CShlB fun i j => .int (i * 2 ^ j.toNat)) := opI fun i j _ _ _ _ _ hc q => by
  obtain ⟨h0, m, h1, h2⟩ := hc
  have := h1.bits
  exact lshift_int h0 (by omega) q
theorem pip_of {op : Operator} {r : R2} (h : OpR X (inplaceOp op) r) : PIp X op r := h
theorem pe_globE {x : Str} {v : V} {pos : Pos} (hg : Gl X x) (h : ∃ u, X.mg x = some u ∧ RelV v u) (hd : (x == ("__debug__" : Str)) = false := by decide) : PE X (.Name x pos) (tC v) := by
  obtain ⟨u, h1, h2⟩ := h
  exact pe_glob hg h1 h2 hd
end
noncomputable def seqC (T : String) (o : Obj) (xs : List V) : Bool := (match o.cls with | .type n => n == T | _ => false) && o.dict.isNone && (match o.data with | .seq its _ => decide (its.size ≤ 1000) && decide (its.toList.map absV = xs.map some) | _ => false)
noncomputable abbrev seqTC := seqC "tuple"
theorem vals_abs : ∀ {us : List Value} {xs : List V}, us.map absV = xs.map some → Vals xs us
  | [], [], _ => .nil
  | [], _ :: _, e => by simp at e
  | _ :: _, [], e => by simp at e
  | u :: us, x :: xs, e => by
    rw [List.map_cons, List.map_cons] at e
    injection e with e1 e2
    refine .cons ?_ (vals_abs e2)
    cases u <;> simp [absV] at e1 <;> subst e1 <;> first | rfl | exact ⟨_, rfl⟩
theorem seqC_get {T : String} {o : Obj} {xs : List V} (h : seqC T o xs = true) : o.cls = .type T ∧ o.dict = none ∧ ∃ its n, o.data = .seq its n ∧ its.size ≤ sizeLine ∧ Vals xs its.toList := by
  unfold seqC at h
  rw [Bool.and_eq_true, Bool.and_eq_true] at h
  obtain ⟨⟨h1, h2⟩, h3⟩ := h
  refine ⟨?_, by simpa using h2, ?_⟩
  · split at h1
    · rename_i e
      rw [e]
      rw [beq_iff_eq.mp h1]
    · cases h1
  · split at h3
    · rename_i its n e
      rw [Bool.and_eq_true, decide_eq_true_eq, decide_eq_true_eq] at h3
      exact ⟨its, n, e, Nat.le_trans h3.1 (by decide), vals_abs h3.2⟩
    · cases h3
theorem seqT_of {K : PySem.W.Frag} {H : Hp} {a : Addr} {o : Obj} {xs : List V} (h : K.lookup a = some o) (i : seqTC o xs = true) : SqT K H a xs := by
  obtain ⟨h1, h2, its, n, h3, h4, h5⟩ := seqC_get i
  exact .inr ⟨o, its, n, h, h1, h3, h4, h5⟩
theorem Same.refl2 {H : Hp} : Same H H := fun _ _ h => h
theorem Same.new {H : Hp} {p : Addr} {o : HO} (hp : H p = none) : Same H (upd H p o) := fun b u e => by
  rw [upd_ne (ne_of_none e hp)]; exact e
theorem leaf {Q : VK} {H H' : Hp} {v x : V} (k : ∀ H', Same H H' → Q v H') (s : Same H H') (e : v = x) : Q x H' := by
  subst e; exact k _ s
end L2
namespace L2
open PySem PySem.Spec PyProof.Rows
theorem iteB {b : Bool} {A B : Prop} (h1 : b = true → A) (h2 : b = false → B) : if b = true then A else B := by
  cases b
  · rw [if_neg (by decide)]; exact h2 rfl
  · rw [if_pos rfl]; exact h1 rfl
theorem inV_int (c : Int) (l : List V) : inV (.int c) l = l.any fun y => eqV y (.int c) := rfl
theorem eqV_int (a c : Int) : eqV (.int a) (.int c) = decide (c = a) := by
  show (a == c) = _
  by_cases h : a = c
  · subst h; simp
  · have h2 : ¬ c = a := fun e => h e.symm
    simp [h, h2]
noncomputable def valI : List (Int × V) → Int → Option V
  | [], _ => none
  | (a, v) :: r, k => if a = k then some v else valI r k
end L2
namespace L2
open PySem PySem.Spec PyProof.Rows
noncomputable def entC (e : DictEntry) (p : Int × V) : Bool := (match e.key with | .int k _ => decide (k = p.1) && decide (e.hash = hashInt k) | _ => false) && decide (absV e.val = some p.2)
noncomputable def entsC : List DictEntry → List (Int × V) → Bool
  | [], [] => true
  | e :: es, p :: ps => entC e p && entsC es ps
  | _, _ => false
noncomputable def dictC (o : Obj) (kvs : List (Int × V)) : Bool := (match o.cls with | .type n => n == "dict" | _ => false) && o.dict.isNone && decide (o.slots.size = 0) && (match o.data with | .dict es _ => entsC es.toList kvs | _ => false)
noncomputable def DictK (K : PySem.W.Frag) (a : Addr) (kvs : List (Int × V)) : Prop := ∃ o, K.lookup a = some o ∧ dictC o kvs = true
theorem dict_of {K : PySem.W.Frag} {a : Addr} {o : Obj} {kvs : List (Int × V)} (h : K.lookup a = some o) (i : dictC o kvs = true) : DictK K a kvs := ⟨o, h, i⟩
theorem rel_abs {u : Value} {x : V} (e : absV u = some x) : RelV x u := by
  cases u <;> simp [absV] at e <;> subst e <;> first | rfl | exact ⟨_, rfl⟩
theorem entC_get {e : DictEntry} {p : Int × V} (h : entC e p = true) : (∃ t, e.key = .int p.1 t) ∧ e.hash = hashInt p.1 ∧ RelV p.2 e.val := by
  unfold entC at h
  rw [Bool.and_eq_true, decide_eq_true_eq] at h
  obtain ⟨h1, h2⟩ := h
  split at h1
  · rename_i k t ek
    rw [Bool.and_eq_true, decide_eq_true_eq, decide_eq_true_eq] at h1
    obtain ⟨e1, e2⟩ := h1
    subst e1
    exact ⟨⟨t, ek⟩, e2, rel_abs h2⟩
  · cases h1
theorem ents_keys : ∀ {es : List DictEntry} {kvs : List (Int × V)}, entsC es kvs = true → ∀ e ∈ es, ∃ k : Int, Value.isInt k e.key = true ∧ e.hash = hashInt k
  | [], _, _, e, he => by cases he
  | a :: es, [], h, _, _ => by cases h
  | a :: es, p :: ps, h, e, he => by
    have h : (entC a p && entsC es ps) = true := h
    rw [Bool.and_eq_true] at h
    rcases List.mem_cons.mp he with q | q
    · subst q
      obtain ⟨⟨t, ek⟩, hh, _⟩ := entC_get h.1
      exact ⟨p.1, by rw [ek]; simp [Value.isInt], hh⟩
    · exact ents_keys h.2 e q
theorem ents_find : ∀ {es : List DictEntry} {kvs : List (Int × V)} {k : Int} {v : V}, entsC es kvs = true → valI kvs k = some v → ∃ u, (es.find? fun e => Value.isInt k e.key).map (·.val) = some u ∧ RelV v u
  | [], [], _, _, _, e => by cases e
  | [], _ :: _, _, _, h, _ => by cases h
  | _ :: _, [], _, _, h, _ => by cases h
  | a :: es, p :: ps, k, v, h, e => by
    have h : (entC a p && entsC es ps) = true := h
    rw [Bool.and_eq_true] at h
    obtain ⟨⟨t, ek⟩, _, rv⟩ := entC_get h.1
    have e : (if p.1 = k then some p.2 else valI ps k) = some v := e
    by_cases c : p.1 = k
    · rw [if_pos c] at e
      cases e
      have q : Value.isInt k a.key = true := by rw [ek, c]; simp [Value.isInt]
      rw [List.find?_cons, q]
      exact ⟨_, rfl, rv⟩
    · rw [if_neg c] at e
      have q : Value.isInt k a.key = false := by rw [ek]; simp [Value.isInt, c]
      rw [List.find?_cons, q]
      exact ents_find h.2 e
theorem dictK_map {X : Cx} {pins : List (Addr × Obj)} {σ : St} {H : Hp} {s : Shared} {a : Addr} {kvs : List (Int × V)} (I : Inv X pins σ H s) (d : DictK X.K a kvs) :
    ∃ es, entsC es kvs = true ∧ s.heap.MapOf (intKind X.prog X.w) a (fun k => (es.find? fun e => Value.isInt k e.key).map (·.val)) := by
  obtain ⟨o, h1, h2⟩ := d
  have g := I.kIn _ _ h1
  unfold dictC at h2
  rw [Bool.and_eq_true, Bool.and_eq_true, Bool.and_eq_true, decide_eq_true_eq] at h2
  obtain ⟨⟨⟨c1, c2⟩, c3⟩, c4⟩ := h2
  have cl : o.cls = .type "dict" := by
    split at c1
    · rename_i e
      rw [e, beq_iff_eq.mp c1]
    · cases c1
  split at c4
  · rename_i es ep ed
    refine ⟨es.toList, c4, o, es, ep, g, ⟨cl, by simpa using c2, by simpa using c3⟩, ed, fun e he => ents_keys c4 e (by simpa using he), fun k => ?_⟩
    unfold findBy
    rw [← Array.find?_toList]
    rfl
  · cases c4
theorem isInt_self (k : Int) (t : Tok) : Value.isInt k (.int k t) = true := by simp [Value.isInt]
noncomputable def tDGetK (K : PySem.W.Frag) (td ty : TE) : TE := fun σ H Q => td σ H fun x H1 => ty σ H1 fun y H2 => ∃ a v, x = .ref a ∧ ∃ kvs k, DictK K a kvs ∧ y = .int k ∧ valI kvs k = some v ∧ Q v H2
theorem pe_dgetK {X : Cx} {o i : Expr} {pos : Pos} {td ty : TE} (_hu : X.A.units + 1 < cLine) (ho : PE X o td) (hi : PE X i ty) (hs : NoSl i) : PE X (.Subscript o i pos) (tDGetK X.K td ty) := by
  intro pins s σ H Q I h
  refine subD_of PySem.F.slot_dict_getitem.lookup hs (thn (ho pins s σ H _ I h) fun u s1 ⟨x, H1, I1, rx, q1⟩ => thn (hi pins s1 σ H1 _ I1 q1) fun iv s2 ⟨y, H2, I2, ry, a, v, ex, kvs, k, dk, ey, g, q2⟩ => ?_)
  subst ex
  subst ey
  obtain rfl : u = Value.ref a := rx
  obtain ⟨t, rfl⟩ := ry
  obtain ⟨es, he, hm⟩ := dictK_map I2 dk
  obtain ⟨w', hw, rw'⟩ := ents_find he g
  exact ⟨hm.typeIs, wpAny_getItem_of (knd := intKind X.prog X.w) (k := k) (isInt_self k t) hm hw ⟨v, H2, I2.tok _, rw', q2⟩⟩
section
variable {X : Cx}
end
end L2
namespace L2
open PySem PySem.Spec PyProof.Rows
end L2
namespace L2
open PySem PySem.Spec PyProof.Rows
end L2
end
section
namespace L2
open PySem PySem.Spec PyProof.Rows
open AutoSeq1 (wpAny_loadPart')
section
variable {prog : Program} {w : World} {A : Around} {E : Value → Shared → Prop} {s : Shared}
end
end L2
end
section
namespace L2
open PySem PySem.Spec PyProof.Rows
section
variable {X : Cx}
theorem op_eqI : OpR X (compareOp .Eq) (rI0 fun i j => .bl (decide (i = j))) := by
  intro pins s σ H x y v u Q I rx ry h
  obtain ⟨i, j, rfl, rfl, q⟩ := h
  refine op_eq pins s σ H _ _ v u Q I rx ry ⟨rfl, ?_⟩
  have e : decide (V.int i = V.int j) = decide (i = j) := by rw [Bool.eq_iff_iff]; simp
  rw [e]; exact q
theorem op_neI : OpR X (compareOp .NotEq) (rI0 fun i j => .bl (decide (¬ i = j))) := by
  intro pins s σ H x y v u Q I rx ry h
  obtain ⟨i, j, rfl, rfl, q⟩ := h
  refine op_ne pins s σ H _ _ v u Q I rx ry ⟨rfl, ?_⟩
  have e : (!decide (V.int i = V.int j)) = decide (¬ i = j) := by rw [Bool.eq_iff_iff]; simp
  rw [e]; exact q
theorem inV_ints (i : Int) : ∀ xs : List Int, inV (.int i) (xs.map V.int) = decide (i ∈ xs)
  | [] => by rw [inV_int]; simp
  | x :: xs => by
    have ih := inV_ints i xs
    rw [inV_int] at ih ⊢
    rw [List.map_cons, List.any_cons, ih, eqV_int, Bool.eq_iff_iff]
    simp
theorem flat_ints : ∀ xs : List Int, (xs.map V.int).all flatV = true
  | [] => rfl
  | x :: xs => by rw [List.map_cons, List.all_cons, flat_ints xs]; rfl
theorem op_inI : OpR X (compareOp .In) (fun x y H Q => ∃ (i : Int) (p : Addr) (xs : List Int), x = .int i ∧ y = .ref p ∧ SqT X.K H p (xs.map V.int) ∧ Q (.bl (decide (i ∈ xs))) H) := by
  intro pins s σ H x y v u Q I rx ry h
  obtain ⟨i, p, xs, rfl, rfl, hq, q⟩ := h
  refine op_in_seq pins s σ H _ _ v u Q I rx ry ⟨p, _, rfl, .inr hq, rfl, flat_ints xs, ?_⟩
  rw [if_neg (by decide), inV_ints]; exact q
theorem op_notInI : OpR X (compareOp .NotIn) (fun x y H Q => ∃ (i : Int) (p : Addr) (xs : List Int), x = .int i ∧ y = .ref p ∧ SqT X.K H p (xs.map V.int) ∧ Q (.bl (decide (¬ i ∈ xs))) H) := by
  intro pins s σ H x y v u Q I rx ry h
  obtain ⟨i, p, xs, rfl, rfl, hq, q⟩ := h
  refine op_notIn_seq pins s σ H _ _ v u Q I rx ry ⟨p, _, rfl, .inr hq, rfl, flat_ints xs, ?_⟩
  have e : (!inV (.int i) (xs.map V.int)) = decide (¬ i ∈ xs) := by rw [inV_ints, Bool.eq_iff_iff]; simp
  rw [if_pos rfl, e]; exact q
theorem bits_eq (i : Int) : ((Builtin.Int.intBits i : Nat) : Int) = bitsI i := by
  unfold Builtin.Int.intBits bitsI
  by_cases h : i = 0
  · subst h; rfl
  · simp [h]
theorem mt_bits : MtR X "int.bit_length" (fun x xs H Q => ∃ i, x = .int i ∧ xs = [] ∧ Q (.int (bitsI i)) H) := by
  intro pins s σ H x xs v us Q I rx rv h
  obtain ⟨i, rfl, rfl, q⟩ := h
  cases rv
  obtain ⟨t, rfl⟩ := rx
  exact call_int_bit_length ⟨.int (bitsI i), H, I.tok _, ⟨_, by rw [← bits_eq]⟩, q⟩
end
noncomputable def rf (t b : Int) : List (Str × V) := putF "bottom" (.int b) (putF "top" (.int t) [])
theorem rf_top (t b : Int) : (rf t b).lookup ("top" : Str) = some (.int t) := by
  unfold rf
  rw [lookup_putF, if_neg (by decide +kernel), lookup_putF, if_pos rfl]
theorem rf_bottom (t b : Int) : (rf t b).lookup ("bottom" : Str) = some (.int b) := by
  unfold rf
  rw [lookup_putF, if_pos rfl]
noncomputable def RatAt (C : Addr) (H : Hp) (a : Addr) (t b : Int) : Prop := ∃ dx, H a = some (.ins C dx (rf t b))
theorem RatAt.keep {C : Addr} {H H' : Hp} {a : Addr} {t b : Int} (s : Same H H') (h : RatAt C H a t b) : RatAt C H' a t b := h.imp fun _ e => s _ _ e
noncomputable def sp_Ratio_init (C : Addr) : Sp := fun vs H Q _ => ∃ (p dx : Addr) (t b : Int), vs = [.ref p, .int t, .int b] ∧ H p = some (.ins C dx []) ∧ ∀ H' : Hp, RatAt C H' p t b → (∀ a o, H a = some o → a ≠ p → H' a = some o) → Q .non H'
theorem fld_top {K : PySem.W.Frag} {C : Addr} {H : Hp} {a : Addr} {t b : Int} {Q : V → Prop} (h : RatAt C H a t b) (c : Cls K C) (n : NoAttr K C "top") (q : Q (.int t)) :
    ∃ (a' : Addr) (C' dx : Addr) (fs : List (Str × V)) (v : V), V.ref a = V.ref a' ∧ H a' = some (.ins C' dx fs) ∧ Cls K C' ∧ NoAttr K C' "top" ∧ fs.lookup ("top" : Str) = some v ∧ Q v := by
  obtain ⟨dx, h⟩ := h
  exact ⟨a, C, dx, _, _, rfl, h, c, n, rf_top _ _, q⟩
theorem fld_bottom {K : PySem.W.Frag} {C : Addr} {H : Hp} {a : Addr} {t b : Int} {Q : V → Prop} (h : RatAt C H a t b) (c : Cls K C) (n : NoAttr K C "bottom") (q : Q (.int b)) :
    ∃ (a' : Addr) (C' dx : Addr) (fs : List (Str × V)) (v : V), V.ref a = V.ref a' ∧ H a' = some (.ins C' dx fs) ∧ Cls K C' ∧ NoAttr K C' "bottom" ∧ fs.lookup ("bottom" : Str) = some v ∧ Q v := by
  obtain ⟨dx, h⟩ := h
  exact ⟨a, C, dx, _, _, rfl, h, c, n, rf_bottom _ _, q⟩
theorem leafR {C : Addr} {Q : VK} {H H' : Hp} {p : Addr} {v u : Int × Int} (k : ∀ (H' : Hp) (p : Addr), Same H H' → RatAt C H' p v.1 v.2 → Q (.ref p) H') (s : Same H H') (hp : RatAt C H' p u.1 u.2) (e : v = u) : Q (.ref p) H' := by
  subst e; exact k _ _ s hp
theorem leafP {Q : VK} {H H' : Hp} {p : Addr} {v u : Int × Int} (k : ∀ (H' : Hp) (p : Addr), Same H H' → H' p = some (.lst [.int v.1, .int v.2]) → Q (.ref p) H') (s : Same H H') (hp : H' p = some (.lst [.int u.1, .int u.2])) (e : v = u) : Q (.ref p) H' := by
  subst e; exact k _ _ s hp
end L2
namespace L2
theorem cmul {m n : Nat} {i j : Int} (h : Sz m i) (g : Sz n j) (l : m + n ≤ 100000000 := by decide) : CMulB i j := ⟨m, n, h, g, l⟩
theorem cdiv {n : Nat} {i j : Int} (h0 : 0 < j) (h : Sz n j) (l : n ≤ 9000 := by decide) (p : 0 < n := by decide) : CDivB i j := ⟨h0, Nat.lt_of_lt_of_le (h.log p) l⟩
theorem cshl {m : Nat} {i j : Int} (h0 : 0 ≤ j) (h : Sz m i) (hj : j ≤ 1000000) (l : m ≤ 1000000 := by decide) : CShlB i j := ⟨h0, m, h, by omega⟩
end L2
end
section
namespace PySem
open PyProof.Rows PySem.W
section
variable {prog : Program} {w : World} {A : Around} {E : Value → Shared → Prop} {s : Shared} {r : Addr}
end
section
variable {prog : Program} {w : World} {A : Around} {s : Shared} {R : Result → Shared → Prop}
variable {I : Addr} {fp wr : List Addr} {G : Array GenState → Array GenState → Prop} {n : Nat} {P : Nat → Value → Prop} {St : Nat → Shared → Prop}
end
end PySem
namespace L2
open PySem PySem.Spec PyProof.Rows
end L2
end
section
namespace L2
open PySem PySem.Spec PyProof.Rows
theorem call_lenI {X : Cx} : CallR X (.builtin "len") (fun vs H Q => ∃ (p : Addr) (xs : List Int), vs = [.ref p] ∧ SqL X.K H p (xs.map V.int) ∧ Q (.int ((xs.length : Nat) : Int)) H) := by
  intro pins s σ H vs us Q I r h
  obtain ⟨p, xs, e, hq, q⟩ := h
  refine call_len_seq pins s σ H vs us Q I r ⟨p, _, e, .inl hq, ?_⟩
  rw [List.length_map]
  exact q
theorem ix_listK {X : Cx} {K : PySem.W.Frag} (h : X.K = K) : IxR X (rIxL K) := by subst h; exact ix_list
end L2
namespace L2
open PySem PySem.Spec PyProof.Rows
noncomputable def RatsAt (C : Addr) (H : Hp) (a : Addr) (ps : List (Int × Int)) : Prop := ∃ as : List Addr, H a = some (.lst (as.map V.ref)) ∧ as.length = ps.length ∧ ∀ (i : Nat) (p : Int × Int), ps[i]? = some p → ∃ c, as[i]? = some c ∧ RatAt C H c p.1 p.2
theorem RatsAt.keep {C : Addr} {H H' : Hp} {a : Addr} {ps : List (Int × Int)} (s : Same H H') (h : RatsAt C H a ps) : RatsAt C H' a ps := by
  obtain ⟨as, h1, h2, h3⟩ := h
  refine ⟨as, s _ _ h1, h2, fun i p hp => ?_⟩
  obtain ⟨c, hc, hr⟩ := h3 i p hp
  exact ⟨c, hc, hr.keep s⟩
theorem RatsAt.get {K : PySem.W.Frag} {C : Addr} {H : Hp} {a : Addr} {ps : List (Int × Int)} {i : Nat} {p : Int × Int} (h : RatsAt C H a ps) (hp : ps[i]? = some p) :
    ∃ (vs : List V) (c : Addr), SqL K H a vs ∧ vs.length = ps.length ∧ vs[i]? = some (V.ref c) ∧ RatAt C H c p.1 p.2 := by
  obtain ⟨as, h1, h2, h3⟩ := h
  obtain ⟨c, hc, hr⟩ := h3 i p hp
  exact ⟨as.map V.ref, c, SqL.of h1, by rw [List.length_map, h2], by rw [List.getElem?_map, hc]; rfl, hr⟩
theorem RatsAt.len {K : PySem.W.Frag} {C : Addr} {H : Hp} {a : Addr} {ps : List (Int × Int)} (h : RatsAt C H a ps) : ∃ vs : List V, SqL K H a vs ∧ vs.length = ps.length := by
  obtain ⟨as, h1, h2, _⟩ := h
  exact ⟨as.map V.ref, SqL.of h1, by rw [List.length_map, h2]⟩
theorem RatsAt.snoc {C : Addr} {H : Hp} {D c : Addr} {ps : List (Int × Int)} {q : Int × Int} (h : RatsAt C H D ps) (hq : RatAt C H c q.1 q.2) :
    ∃ acc : List V, H D = some (.lst acc) ∧ acc.length = ps.length ∧ RatsAt C (upd H D (.lst (acc ++ [V.ref c]))) D (ps ++ [q]) := by
  obtain ⟨as, h1, h2, h3⟩ := h
  have ne : ∀ {b : Addr} {x : Int × Int}, RatAt C H b x.1 x.2 → b ≠ D := fun hb e => by
    obtain ⟨dx, hb⟩ := hb
    rw [e, h1] at hb
    cases hb
  have kp : ∀ {b : Addr} {x : Int × Int}, RatAt C H b x.1 x.2 → RatAt C (upd H D (.lst (as.map V.ref ++ [V.ref c]))) b x.1 x.2 := fun hb => by
    have n := ne hb
    obtain ⟨dx, hb⟩ := hb
    exact ⟨dx, by rw [upd_ne n]; exact hb⟩
  refine ⟨as.map V.ref, h1, by rw [List.length_map, h2], as ++ [c], by rw [upd_same, List.map_append]; rfl, by rw [List.length_append, List.length_append, h2]; rfl, fun i p hp => ?_⟩
  by_cases hi : i < ps.length
  · rw [List.getElem?_append_left hi] at hp
    obtain ⟨b, hb, hr⟩ := h3 i p hp
    exact ⟨b, by rw [List.getElem?_append_left (by omega)]; exact hb, kp hr⟩
  · rw [List.getElem?_append_right (by omega)] at hp
    have hi2 : i - ps.length = 0 := by
      have := (List.getElem?_eq_some_iff.mp hp).1
      simp at this
      omega
    rw [hi2] at hp
    have e : q = p := Option.some.inj hp
    subst e
    exact ⟨c, by rw [List.getElem?_append_right (by omega), show i - as.length = 0 by omega]; rfl, kp hq⟩
theorem at_neg1 {xs : List V} {v : V} {n : Nat} (hn : n + 1 = xs.length) (h : xs[n]? = some v) : atI xs (-1) = some v := by
  have e : xs = xs.take n ++ [v] := by
    have h1 := List.getElem?_eq_some_iff.mp h
    obtain ⟨h2, h3⟩ := h1
    have h4 : xs.take (n + 1) = xs.take n ++ [xs[n]] := List.take_succ_eq_append_getElem h2
    rw [hn, List.take_length, h3] at h4
    exact h4
  rw [e]
  exact atI_last _ _
end L2
end

namespace My
theorem ipos {b : Int} (hb : 0 < b) : (0 : Rat) < (b : Rat) := Rat.intCast_pos.mpr hb
theorem ine {b : Int} (hb : 0 < b) : (b : Rat) ≠ 0 := Rat.ne_of_gt (ipos hb)
theorem le_div {a b c : Rat} (hc : 0 < c) : a ≤ b / c ↔ a * c ≤ b := by
  rw [← Rat.not_lt, ← Rat.not_lt, Rat.div_lt_iff hc]
theorem div_le {a b c : Rat} (hc : 0 < c) : b / c ≤ a ↔ b ≤ a * c := by
  rw [← Rat.not_lt, ← Rat.not_lt, Rat.lt_div_iff hc]
theorem eq_div {a b c : Rat} (hc : 0 < c) : a = b / c ↔ a * c = b := by
  constructor
  · intro h; rw [h]; exact Rat.div_mul_cancel (Rat.ne_of_gt hc)
  · intro h; rw [← h]; exact (Rat.mul_div_cancel (Rat.ne_of_gt hc)).symm
theorem div_le_div {a b c d : Rat} (hb : 0 < b) (hd : 0 < d) : a / b ≤ c / d ↔ a * d ≤ c * b := by
  rw [div_le hb]
  have e : c / d * b = c * b / d := by grind
  rw [e, le_div hd]
theorem div_lt_div {a b c d : Rat} (hb : 0 < b) (hd : 0 < d) : a / b < c / d ↔ a * d < c * b := by
  rw [← Rat.not_le, ← Rat.not_le, div_le_div hd hb]
theorem div_eq_div {a b c d : Rat} (hb : 0 < b) (hd : 0 < d) : a / b = c / d ↔ a * d = c * b := by
  rw [eq_div hd]
  have e : a / b * d = a * d / b := by grind
  rw [e]
  constructor
  · intro h; exact (eq_div hb).mp h.symm |>.symm
  · intro h; exact ((eq_div hb).mpr h.symm).symm
theorem qle {a b c d : Int} (hb : 0 < b) (hd : 0 < d) : (a : Rat) / b ≤ (c : Rat) / d ↔ a * d ≤ c * b := by
  rw [div_le_div (ipos hb) (ipos hd), ← Rat.intCast_mul, ← Rat.intCast_mul, Rat.intCast_le_intCast]
theorem qlt {a b c d : Int} (hb : 0 < b) (hd : 0 < d) : (a : Rat) / b < (c : Rat) / d ↔ a * d < c * b := by
  rw [div_lt_div (ipos hb) (ipos hd), ← Rat.intCast_mul, ← Rat.intCast_mul, Rat.intCast_lt_intCast]
theorem qeq {a b c d : Int} (hb : 0 < b) (hd : 0 < d) : (a : Rat) / b = (c : Rat) / d ↔ a * d = c * b := by
  rw [div_eq_div (ipos hb) (ipos hd), ← Rat.intCast_mul, ← Rat.intCast_mul, Rat.intCast_inj]
theorem q0le {a b : Int} (hb : 0 < b) : (0 : Rat) ≤ (a : Rat) / b ↔ 0 ≤ a := by
  rw [le_div (ipos hb), Rat.zero_mul, Rat.intCast_nonneg]
theorem qlt0 {a b : Int} (hb : 0 < b) : (a : Rat) / b < 0 ↔ a < 0 := by
  rw [← Rat.not_le, q0le hb, Int.not_le]
theorem q0lt {a b : Int} (hb : 0 < b) : 0 < (a : Rat) / b ↔ 0 < a := by
  rw [Rat.lt_div_iff (ipos hb), Rat.zero_mul, Rat.intCast_pos]
theorem qeq0 {a b : Int} (hb : 0 < b) : (a : Rat) / b = 0 ↔ a = 0 := by
  constructor
  · intro h
    have := (eq_div (ipos hb)).mp h.symm
    rw [Rat.zero_mul] at this
    exact (Rat.intCast_inj.mp (this.symm.trans Rat.intCast_zero.symm))
  · intro h; rw [h, Rat.intCast_zero]; grind
theorem qadd {a b c d : Int} (hb : 0 < b) (hd : 0 < d) : (a : Rat) / b + (c : Rat) / d = ((a * d + c * b : Int) : Rat) / ((b * d : Int) : Rat) := by
  have h1 := ine hb
  have h2 := ine hd
  rw [Rat.intCast_add, Rat.intCast_mul, Rat.intCast_mul, Rat.intCast_mul]
  grind
theorem qmul {a b c d : Int} (hb : 0 < b) (hd : 0 < d) : (a : Rat) / b * ((c : Rat) / d) = ((a * c : Int) : Rat) / ((b * d : Int) : Rat) := by
  have h1 := ine hb
  have h2 := ine hd
  rw [Rat.intCast_mul, Rat.intCast_mul]
  grind
theorem qdiv {a b c d : Int} (hb : 0 < b) (hd : 0 < d) (hc : c ≠ 0) : (a : Rat) / b / ((c : Rat) / d) = ((a * d : Int) : Rat) / ((b * c : Int) : Rat) := by
  have h1 := ine hb
  have h2 := ine hd
  have h3 : (c : Rat) ≠ 0 := fun h => hc (Rat.intCast_inj.mp (h.trans Rat.intCast_zero.symm))
  rw [Rat.intCast_mul, Rat.intCast_mul]
  grind
theorem qneg {a b : Int} : -((a : Rat) / b) = ((-a : Int) : Rat) / b := by
  rw [Rat.intCast_neg]; grind
theorem qnegneg {a b : Int} : ((-a : Int) : Rat) / ((-b : Int) : Rat) = (a : Rat) / b := by
  rw [Rat.intCast_neg, Rat.intCast_neg]
  grind
theorem qone (a : Int) : (a : Rat) = (a : Rat) / ((1 : Int) : Rat) := by
  rw [Rat.intCast_one]; grind
theorem floor_div {a b : Int} (hb : 0 < b) : ((a : Rat) / (b : Rat)).floor = a / b := by
  have key : ∀ x : Int, x ≤ ((a : Rat) / (b : Rat)).floor ↔ x ≤ a / b := by
    intro x
    rw [Rat.le_floor_iff, le_div (ipos hb), ← Rat.intCast_mul, Rat.intCast_le_intCast, Int.le_ediv_iff_mul_le hb]
  apply Int.le_antisymm
  · exact (key _).mp (Int.le_refl _)
  · exact (key _).mpr (Int.le_refl _)
theorem num_den (q : Rat) : q = (q.num : Rat) / ((q.den : Int) : Rat) := by
  have h := Rat.num_divInt_den q
  rw [Rat.divInt_eq_div] at h
  exact h.symm
noncomputable def wholeI (mode : Nat) (a b : Int) : Int :=
  if a % b = 0 then a / b
  else if mode = 1 then (if 0 ≤ a then a / b else a / b + 1)
  else if mode = 2 then a / b + 1
  else if mode = 3 then a / b
  else if 2 * (a % b) < b then a / b
  else if b < 2 * (a % b) then a / b + 1
  else if mode = 4 then (if 0 ≤ a then a / b + 1 else a / b)
  else if (a / b) % 2 = 0 then a / b else a / b + 1
theorem frac_div {a b : Int} (hb : 0 < b) : (a : Rat) / b - ((a / b : Int) : Rat) = ((a % b : Int) : Rat) / b := by
  have h1 := ine hb
  have e : (a : Rat) = ((b * (a / b) + a % b : Int) : Rat) := by rw [Int.mul_ediv_add_emod]
  rw [Rat.intCast_add, Rat.intCast_mul] at e
  have e2 : (a : Rat) / b = ((b : Rat) * ((a / b : Int) : Rat) + ((a % b : Int) : Rat)) / b := by rw [← e]
  rw [e2]
  grind
theorem half_lt {a b : Int} (hb : 0 < b) : (a : Rat) / b < 1 / 2 ↔ 2 * a < b := by
  have := @qlt a b 1 2 hb (by decide)
  rw [Rat.intCast_one] at this
  have e : ((2 : Int) : Rat) = 2 := rfl
  rw [e] at this
  rw [this]; omega
theorem lt_half {a b : Int} (hb : 0 < b) : 1 / 2 < (a : Rat) / b ↔ b < 2 * a := by
  have := @qlt 1 2 a b (by decide) hb
  rw [Rat.intCast_one] at this
  have e : ((2 : Int) : Rat) = 2 := rfl
  rw [e] at this
  rw [this]; omega
theorem whole_div (mode : Nat) {a b : Int} (hb : 0 < b) : Sh.whole mode ((a : Rat) / b) = wholeI mode a b := by
  unfold Sh.whole wholeI
  dsimp only
  rw [floor_div hb, frac_div hb]
  simp only [qeq0 hb, q0le hb, half_lt hb, lt_half hb]
end My
namespace My
theorem two_eq (k : Int) : Sh.two k = (2 : Rat) ^ k := by
  unfold Sh.two
  split
  · rename_i h
    obtain ⟨n, rfl⟩ := Int.eq_ofNat_of_zero_le h
    rw [Rat.zpow_natCast, Rat.natCast_pow]
    rfl
  · rename_i h
    obtain ⟨n, hn⟩ := Int.eq_ofNat_of_zero_le (show 0 ≤ -k by omega)
    have e : k = -(n : Int) := by omega
    rw [e, Rat.zpow_neg, Rat.zpow_natCast, Int.neg_neg, Int.toNat_natCast, Rat.natCast_pow]
    have : ((2 : Nat) : Rat) = 2 := rfl
    rw [this]
    grind
theorem two_ne : (2 : Rat) ≠ 0 := by decide
theorem two_pos (k : Int) : 0 < Sh.two k := by
  rw [two_eq]; exact Rat.zpow_pos (by decide)
theorem two_add (j k : Int) : Sh.two (j + k) = Sh.two j * Sh.two k := by
  rw [two_eq, two_eq, two_eq, Rat.zpow_add two_ne]
theorem two_one : Sh.two 1 = 2 := by rw [two_eq, Rat.zpow_one]
theorem two_nat (n : Nat) : Sh.two (n : Int) = ((2 ^ n : Int) : Rat) := by
  rw [two_eq, Rat.zpow_natCast, Rat.intCast_pow]; rfl
theorem two_neg_nat (n : Nat) : Sh.two (-(n : Int)) = 1 / ((2 ^ n : Int) : Rat) := by
  rw [two_eq, Rat.zpow_neg, Rat.zpow_natCast, Rat.intCast_pow]
  have : ((2 : Int) : Rat) = 2 := rfl
  rw [this]; grind
theorem two_le {j k : Int} (h : j ≤ k) : Sh.two j ≤ Sh.two k := by
  obtain ⟨n, hn⟩ := Int.eq_ofNat_of_zero_le (show 0 ≤ k - j by omega)
  have e : k = j + (n : Int) := by omega
  rw [e, two_add, two_nat]
  have h1 := two_pos j
  have h2 : (1 : Rat) ≤ ((2 ^ n : Int) : Rat) := by
    rw [← Rat.intCast_one, Rat.intCast_le_intCast]
    have : (0 : Int) < 2 ^ n := Int.pow_pos (by decide)
    omega
  have := Rat.mul_le_mul_of_nonneg_left h2 (Rat.le_of_lt h1)
  rw [Rat.mul_one] at this
  exact this
theorem two_lt {j k : Int} (h : j < k) : Sh.two j < Sh.two k := by
  have h1 : Sh.two (j + 1) ≤ Sh.two k := two_le (by omega)
  have h2 := two_pos j
  rw [two_add, two_one] at h1
  grind
theorem two_lt_iff {j k : Int} : Sh.two j < Sh.two k ↔ j < k := by
  constructor
  · intro h
    rcases Int.lt_or_le j k with h2 | h2
    · exact h2
    · exact absurd (two_le h2) (Rat.not_le.mpr h)
  · exact two_lt
theorem log2_nat {n : Nat} (h : n ≠ 0) : 2 ^ n.log2 ≤ n ∧ n < 2 ^ (n.log2 + 1) :=
  ⟨(Nat.le_log2 h).mp (Nat.le_refl _), Nat.lt_log2_self⟩
theorem log2_spec {q : Rat} (hq : 0 < q) : Sh.two (Sh.log2 q) ≤ q ∧ q < Sh.two (Sh.log2 q + 1) := by
  have hn : 0 < q.num := by
    have h := num_den q
    rw [h] at hq
    exact (q0lt (by have := q.den_pos; omega)).mp hq
  have hd : 0 < (q.den : Int) := by have := q.den_pos; omega
  have e := num_den q
  obtain ⟨a1, a2⟩ := log2_nat (n := q.num.natAbs) (by omega)
  obtain ⟨b1, b2⟩ := log2_nat (n := q.den) (by omega)
  have en : ((q.num.natAbs : Nat) : Int) = q.num := by omega
  -- cast to Int
  have a1' : (2 : Int) ^ q.num.natAbs.log2 ≤ q.num := by
    have := Int.ofNat_le.mpr a1; rw [Int.natCast_pow, en] at this; exact this
  have a2' : q.num < (2 : Int) ^ (q.num.natAbs.log2 + 1) := by
    have := Int.ofNat_lt.mpr a2; rw [Int.natCast_pow, en] at this; exact this
  have b1' : (2 : Int) ^ q.den.log2 ≤ (q.den : Int) := by
    have := Int.ofNat_le.mpr b1; rw [Int.natCast_pow] at this; exact this
  have b2' : (q.den : Int) < (2 : Int) ^ (q.den.log2 + 1) := by
    have := Int.ofNat_lt.mpr b2; rw [Int.natCast_pow] at this; exact this
  generalize hln : q.num.natAbs.log2 = ln at *
  generalize hld : q.den.log2 = ld at *
  have A1 : Sh.two (ln : Int) ≤ (q.num : Rat) := by rw [two_nat, Rat.intCast_le_intCast]; exact a1'
  have A2 : (q.num : Rat) < Sh.two ((ln : Int) + 1) := by
    have : ((ln : Int) + 1) = ((ln + 1 : Nat) : Int) := by omega
    rw [this, two_nat, Rat.intCast_lt_intCast]; exact a2'
  have B1 : Sh.two (ld : Int) ≤ ((q.den : Int) : Rat) := by rw [two_nat, Rat.intCast_le_intCast]; exact b1'
  have B2 : ((q.den : Int) : Rat) < Sh.two ((ld : Int) + 1) := by
    have : ((ld : Int) + 1) = ((ld + 1 : Nat) : Int) := by omega
    rw [this, two_nat, Rat.intCast_lt_intCast]; exact b2'
  have D := ipos hd
  -- q < two (ln - ld + 1)
  have up : q < Sh.two ((ln : Int) - ld + 1) := by
    rw [e, Rat.div_lt_iff D]
    have h1 : Sh.two ((ln : Int) - ld + 1) * Sh.two (ld : Int) ≤ Sh.two ((ln : Int) - ld + 1) * ((q.den : Int) : Rat) :=
      Rat.mul_le_mul_of_nonneg_left B1 (Rat.le_of_lt (two_pos _))
    have h2 : Sh.two ((ln : Int) - ld + 1) * Sh.two (ld : Int) = Sh.two ((ln : Int) + 1) := by rw [← two_add]; congr 1; omega
    grind
  have lo : Sh.two ((ln : Int) - ld - 1) ≤ q := by
    rw [e, le_div D]
    have h1 : Sh.two ((ln : Int) - ld - 1) * ((q.den : Int) : Rat) ≤ Sh.two ((ln : Int) - ld - 1) * Sh.two ((ld : Int) + 1) :=
      Rat.mul_le_mul_of_nonneg_left (Rat.le_of_lt B2) (Rat.le_of_lt (two_pos _))
    have h2 : Sh.two ((ln : Int) - ld - 1) * Sh.two ((ld : Int) + 1) = Sh.two (ln : Int) := by rw [← two_add]; congr 1; omega
    grind
  unfold Sh.log2
  rw [hln, hld]
  dsimp only
  split
  · rename_i h
    exact ⟨h, up⟩
  · rename_i h
    refine ⟨lo, ?_⟩
    have : (ln : Int) - ld - 1 + 1 = (ln : Int) - ld := by omega
    rw [this]
    exact Rat.not_le.mp h
theorem log2_unique {q : Rat} {k : Int} (h1 : Sh.two k ≤ q) (h2 : q < Sh.two (k + 1)) : Sh.log2 q = k := by
  have hq : 0 < q := by have := two_pos k; grind
  obtain ⟨a, b⟩ := log2_spec hq
  have c1 : Sh.two k < Sh.two (Sh.log2 q + 1) := by grind
  have c2 : Sh.two (Sh.log2 q) < Sh.two (k + 1) := by grind
  rw [two_lt_iff] at c1 c2
  omega
end My
namespace My
open Sh (Fmt How)
theorem pow2_pos (n : Nat) : (0 : Int) < 2 ^ n := Int.pow_pos (by decide)
theorem natpow (n : Nat) : (((2 ^ n : Nat) : Rat)) = ((2 ^ n : Int) : Rat) := by
  rw [Rat.natCast_pow, Rat.intCast_pow]; rfl
noncomputable def fixLo (w : Nat) (s : Bool) : Int := if s = true then -(2 ^ (w - 1)) else 0
noncomputable def fixHi (w : Nat) (s : Bool) : Int := if s = true then 2 ^ (w - 1) - 1 else 2 ^ w - 1
theorem fix_low (w p : Nat) (s : Bool) : (Fmt.fix w p s).low = ((fixLo w s : Int) : Rat) / ((2 ^ p : Int) : Rat) := by
  unfold Fmt.low fixLo
  dsimp only
  cases s
  · rw [if_neg (by decide), if_neg (by decide), Rat.intCast_zero]; grind
  · rw [if_pos rfl, if_pos rfl, natpow, natpow, Rat.intCast_neg]
    grind
theorem fix_high (w p : Nat) (s : Bool) : (Fmt.fix w p s).high = ((fixHi w s : Int) : Rat) / ((2 ^ p : Int) : Rat) := by
  unfold Fmt.high fixHi
  dsimp only
  rw [natpow, natpow]
  cases s
  · rw [if_neg (by decide), if_neg (by decide), Rat.intCast_sub, Rat.intCast_one]
  · rw [if_pos rfl, if_pos rfl, Rat.intCast_sub, Rat.intCast_one]
theorem fix_raw (w p : Nat) (s : Bool) (k : Int) : (Fmt.fix w p s).raw ((k : Rat) / ((2 ^ p : Int) : Rat)) = (k % 2 ^ w).toNat := by
  unfold Fmt.raw
  dsimp only
  rw [natpow, Rat.div_mul_cancel (ine (pow2_pos p)), Rat.floor_intCast]
  congr 2
noncomputable def putFix (w p : Nat) (s : Bool) (mode ends : Nat) (a b : Int) : Nat × Nat :=
  let k := wholeI mode (a * 2 ^ p) b
  let i := if (a * 2 ^ p) % b = 0 then 0 else 1
  if fixLo w s ≤ k ∧ k ≤ fixHi w s then ((k % 2 ^ w).toNat, i)
  else if ends = 0 then ((k % 2 ^ w).toNat, i ||| 4)
  else (((if k < fixLo w s then fixLo w s else fixHi w s) % 2 ^ w).toNat, 5)
theorem whole_exact (mode : Nat) {a b : Int} (_hb : 0 < b) : wholeI mode a b * b = a ↔ a % b = 0 := by
  constructor
  · intro h
    rw [← h]; exact Int.mul_emod_left _ _
  · intro h
    unfold wholeI
    rw [if_pos h]
    exact Int.ediv_mul_cancel (Int.dvd_of_emod_eq_zero h)
theorem put_fix (w p : Nat) (s : Bool) (h : How) {a b : Int} (hb : 0 < b) :
    Sh.put (.fix w p s) h ((a : Rat) / b) = putFix w p s h.mode h.ends a b := by
  have hp := pow2_pos p
  have hu : (Fmt.fix w p s).stepAt ((a : Rat) / b) = 1 / ((2 ^ p : Int) : Rat) := by
    show 1 / ((2 ^ p : Nat) : Rat) = _
    rw [natpow]
  have e1 : (a : Rat) / b / (1 / ((2 ^ p : Int) : Rat)) = ((a * 2 ^ p : Int) : Rat) / b := by
    have h1 := ine hb; have h2 := ine hp
    rw [Rat.intCast_mul]; grind
  unfold Sh.put putFix
  dsimp only
  rw [hu, e1, whole_div _ hb]
  generalize hk : wholeI h.mode (a * 2 ^ p) b = k
  have e2 : (k : Rat) * (1 / ((2 ^ p : Int) : Rat)) = (k : Rat) / ((2 ^ p : Int) : Rat) := by grind
  rw [e2, fix_low, fix_high, fix_raw]
  have e3 : (k * b = a * 2 ^ p) = ((a * 2 ^ p) % b = 0) := by rw [← hk, whole_exact _ hb]
  simp only [qeq hp hb, e3, qle hp hp, qlt hp hp]
  have c1 : (fixLo w s * 2 ^ p ≤ k * 2 ^ p) = (fixLo w s ≤ k) := propext ⟨fun h => Int.le_of_mul_le_mul_right h hp, fun h => Int.mul_le_mul_of_nonneg_right h (Int.le_of_lt hp)⟩
  have c2 : (k * 2 ^ p ≤ fixHi w s * 2 ^ p) = (k ≤ fixHi w s) := propext ⟨fun h => Int.le_of_mul_le_mul_right h hp, fun h => Int.mul_le_mul_of_nonneg_right h (Int.le_of_lt hp)⟩
  have c3 : (k * 2 ^ p < fixLo w s * 2 ^ p) = (k < fixLo w s) := propext ⟨fun h => Int.lt_of_mul_lt_mul_right h (Int.le_of_lt hp), fun h => Int.mul_lt_mul_of_pos_right h hp⟩
  simp only [c1, c2, c3]
  have fl : (Fmt.fix w p s).isFloat = false := rfl
  have e4 : (Fmt.fix w p s).raw (if k < fixLo w s then ((fixLo w s : Int) : Rat) / ((2 ^ p : Int) : Rat) else ((fixHi w s : Int) : Rat) / ((2 ^ p : Int) : Rat)) = ((if k < fixLo w s then fixLo w s else fixHi w s) % 2 ^ w).toNat := by
    split <;> exact fix_raw _ _ _ _
  rw [e4, fl]
  simp only [and_true]
  rfl
end My
namespace My
open Sh (Fmt How)
theorem whole_le {mode : Nat} {x : Rat} {N : Int} (h : x ≤ (N : Rat)) : Sh.whole mode x ≤ N := by
  have f1 := Rat.floor_le x
  have f2 : x.floor ≤ N := Rat.intCast_le_intCast.mp (Rat.le_trans f1 h)
  unfold Sh.whole
  dsimp only
  by_cases d : x - (x.floor : Rat) = 0
  · rw [if_pos d]; exact f2
  · rw [if_neg d]
    have f3 : x.floor + 1 ≤ N := by
      rcases Int.lt_or_le x.floor N with g | g
      · omega
      · have e : x.floor = N := by omega
        exfalso; apply d
        rw [e]
        rw [e] at f1
        grind
    repeat (split)
    all_goals omega
theorem le_whole {mode : Nat} {x : Rat} {N : Int} (h : (N : Rat) ≤ x) : N ≤ Sh.whole mode x := by
  have f2 : N ≤ x.floor := Rat.le_floor_iff.mpr h
  unfold Sh.whole
  dsimp only
  repeat (split)
  all_goals omega
theorem whole_zero (mode : Nat) : Sh.whole mode 0 = 0 := by
  have h : Sh.whole mode 0 = Sh.whole mode ((0 : Int) : Rat) := rfl
  rw [h]
  apply Int.le_antisymm
  · exact whole_le (Rat.le_refl)
  · exact le_whole (Rat.le_refl)
noncomputable def stepF (m M : Nat) (q : Rat) : Rat := Sh.two ((if q = 0 then 1 - (M : Int) else max (Sh.log2 (Sh.size q)) (1 - (M : Int))) - (m : Int))
noncomputable def rawF (m M B : Nat) (q : Rat) : Nat :=
  if q = 0 then 0
  else
    let u := stepF m M q
    let n := (Sh.size q / u).floor.toNat
    let e : Int := Sh.log2 (Sh.size q)
    (if q < 0 then 2 ^ (B - 1) else 0) + (if n < 2 ^ m then n else (e + (M : Int)).toNat * 2 ^ m + (n - 2 ^ m))
noncomputable def highF (m M : Nat) : Rat := ((2 ^ (m + 1) - 1 : Nat) : Rat) * Sh.two ((M : Int) - (m : Int))
theorem raw32 (q : Rat) : Fmt.f32.raw q = rawF 23 127 32 q := rfl
theorem raw64 (q : Rat) : Fmt.f64.raw q = rawF 52 1023 64 q := rfl
theorem high32 : Fmt.f32.high = highF 23 127 := rfl
theorem high64 : Fmt.f64.high = highF 52 1023 := rfl
theorem step32 (q : Rat) : Fmt.f32.stepAt q = stepF 23 127 q := rfl
theorem step64 (q : Rat) : Fmt.f64.stepAt q = stepF 52 1023 q := rfl
noncomputable def rawOf (m M B : Nat) (neg : Bool) (n : Nat) (e : Int) : Nat := (if neg = true then 2 ^ (B - 1) else 0) + (n + (e + M - 1).toNat * 2 ^ m)
theorem size_neg (q : Rat) : Sh.size (-q) = Sh.size q := by
  unfold Sh.size
  split <;> split <;> grind
theorem size_of_nonneg {q : Rat} (h : 0 ≤ q) : Sh.size q = q := by
  unfold Sh.size
  rw [if_neg (Rat.not_lt.mpr h)]
theorem natcast (n : Nat) : (n : Rat) = ((n : Int) : Rat) := by rw [Rat.intCast_natCast]
theorem rawF_of {m M B n : Nat} {e : Int} {neg : Bool} {z : Rat} (hn0 : n ≠ 0) (hn : n ≤ 2 ^ (m + 1)) (he : 1 - (M : Int) ≤ e) (hlow : 2 ^ m ≤ n ∨ e = 1 - (M : Int))
    (hz : z = if neg = true then -((n : Rat) * Sh.two (e - m)) else (n : Rat) * Sh.two (e - m)) : rawF m M B z = rawOf m M B neg n e := by
  have hnp : (0 : Rat) < (n : Rat) := Rat.natCast_pos.mpr (by omega)
  have hpos : 0 < (n : Rat) * Sh.two (e - m) := Rat.mul_pos hnp (two_pos _)
  have hs : Sh.size z = (n : Rat) * Sh.two (e - m) := by
    rw [hz]; cases neg
    · rw [if_neg (by decide)]; exact size_of_nonneg (Rat.le_of_lt hpos)
    · rw [if_pos rfl, size_neg]; exact size_of_nonneg (Rat.le_of_lt hpos)
  have hz0 : z ≠ 0 := by
    rw [hz]; cases neg
    · rw [if_neg (by decide)]; exact Rat.ne_of_gt hpos
    · rw [if_pos rfl]; grind
  have hsg : (z < 0) = (neg = true) := by
    apply propext
    rw [hz]; cases neg
    · rw [if_neg (by decide)]; constructor
      · intro h; grind
      · intro h; cases h
    · rw [if_pos rfl]; constructor
      · intro _; rfl
      · intro _; grind
  unfold rawF rawOf
  rw [if_neg hz0]
  dsimp only
  simp only [hsg]
  congr 1
  unfold stepF
  rw [if_neg hz0, hs]
  have n2 : ∀ k : Nat, ((2 ^ k : Nat) : Rat) = Sh.two (k : Int) := fun k => by rw [two_nat, natpow]
  have fl : ∀ (j : Nat) (u : Rat), 0 < u → ((j : Rat) * u / u).floor.toNat = j := fun j u hu => by
    rw [Rat.mul_div_cancel (Rat.ne_of_gt hu), natcast, Rat.floor_intCast]; rfl
  rcases Nat.lt_or_ge n (2 ^ m) with c1 | c1
  · -- below the first bit: the least exponent
    have e1 : e = 1 - (M : Int) := by omega
    have lt : Sh.log2 ((n : Rat) * Sh.two (e - m)) < e := by
      obtain ⟨a, _⟩ := log2_spec hpos
      have h1 : (n : Rat) * Sh.two (e - m) < Sh.two e := by
        have h2 : (n : Rat) < Sh.two (m : Int) := by rw [← n2]; exact Rat.natCast_lt_natCast.mpr c1
        have h3 := (Rat.mul_lt_mul_right (two_pos (e - m))).mpr h2
        rw [← two_add] at h3
        have e4 : (m : Int) + (e - m) = e := by omega
        rw [e4] at h3; exact h3
      have h5 : Sh.two (Sh.log2 ((n : Rat) * Sh.two (e - m))) < Sh.two e := Rat.not_le.mp fun h => absurd (Rat.le_trans h a) (Rat.not_le.mpr h1)
      exact two_lt_iff.mp h5
    have mx : max (Sh.log2 ((n : Rat) * Sh.two (e - m))) (1 - (M : Int)) = e := by omega
    rw [mx, fl n _ (two_pos _), if_pos c1]
    have : (e + M - 1).toNat = 0 := by omega
    rw [this]; omega
  · rcases Nat.lt_or_ge n (2 ^ (m + 1)) with c2 | c2
    · have lg : Sh.log2 ((n : Rat) * Sh.two (e - m)) = e := by
        apply log2_unique
        · have h2 : Sh.two (m : Int) ≤ (n : Rat) := by rw [← n2]; exact Rat.natCast_le_natCast.mpr c1
          have h3 := Rat.mul_le_mul_of_nonneg_right h2 (Rat.le_of_lt (two_pos (e - m)))
          rw [← two_add] at h3
          have e4 : (m : Int) + (e - m) = e := by omega
          rw [e4] at h3; exact h3
        · have h2 : (n : Rat) < Sh.two ((m + 1 : Nat) : Int) := by rw [← n2]; exact Rat.natCast_lt_natCast.mpr c2
          have h3 := (Rat.mul_lt_mul_right (two_pos (e - m))).mpr h2
          rw [← two_add] at h3
          have e4 : ((m + 1 : Nat) : Int) + (e - m) = e + 1 := by omega
          rw [e4] at h3; exact h3
      have mx : max (Sh.log2 ((n : Rat) * Sh.two (e - m))) (1 - (M : Int)) = e := by omega
      rw [mx, lg, fl n _ (two_pos _), if_neg (by omega)]
      have : (e + M).toNat = (e + M - 1).toNat + 1 := by omega
      rw [this, Nat.add_mul]
      omega
    · have en : n = 2 ^ (m + 1) := by omega
      have lg0 : (n : Rat) * Sh.two (e - m) = Sh.two (e + 1) := by
        rw [en, n2, ← two_add]; congr 1; omega
      have lg : Sh.log2 ((n : Rat) * Sh.two (e - m)) = e + 1 := by
        rw [lg0]
        exact log2_unique Rat.le_refl (two_lt (by omega))
      have mx : max (Sh.log2 ((n : Rat) * Sh.two (e - m))) (1 - (M : Int)) = e + 1 := by omega
      have sp : (n : Rat) * Sh.two (e - m) = ((2 ^ m : Nat) : Rat) * Sh.two (e + 1 - m) := by
        rw [en, n2, n2, ← two_add, ← two_add]; congr 1; omega
      rw [mx, lg, sp, fl (2 ^ m) _ (two_pos _), if_neg (by omega), en]
      have : (e + 1 + M).toNat = (e + M - 1).toNat + 2 := by omega
      rw [this, Nat.add_mul, Nat.pow_succ]
      omega
end My
namespace My
open Sh (Fmt How)
noncomputable def putF (m M B mode : Nat) (q : Rat) : Nat × Nat :=
  let u := stepF m M q
  let z : Rat := (Sh.whole mode (q / u) : Rat) * u
  let i := if z = q then 0 else Sh.INEXACT
  if -highF m M ≤ z ∧ z ≤ highF m M then (rawF m M B z, i)
  else (rawF m M B (if z < -highF m M then -highF m M else highF m M), Sh.INEXACT ||| Sh.ENDED)
theorem put32 (h : How) (q : Rat) : Sh.put .f32 h q = putF 23 127 32 h.mode q := by
  have e : Fmt.f32.low = -highF 23 127 := rfl
  unfold Sh.put putF
  dsimp only
  rw [if_neg (show ¬ (h.ends = 0 ∧ Fmt.f32.isFloat = false) from fun z => nomatch z.2), e, high32, step32]
  simp only [raw32]
theorem put64 (h : How) (q : Rat) : Sh.put .f64 h q = putF 52 1023 64 h.mode q := by
  have e : Fmt.f64.low = -highF 52 1023 := rfl
  unfold Sh.put putF
  dsimp only
  rw [if_neg (show ¬ (h.ends = 0 ∧ Fmt.f64.isFloat = false) from fun z => nomatch z.2), e, high64, step64]
  simp only [raw64]
theorem high_nat (m M : Nat) : highF m M = ((2 ^ (m + 1) - 1 : Nat) : Rat) * Sh.two ((M : Int) - (m : Int)) := rfl
theorem high_pos (m M : Nat) : 0 < highF m M := by
  rw [high_nat]
  refine Rat.mul_pos (Rat.natCast_pos.mpr ?_) (two_pos _)
  have : 2 ^ (m + 1) = 2 ^ m * 2 := Nat.pow_succ _ _
  have := Nat.two_pow_pos m
  omega
theorem putF_zero (m M B mode : Nat) : putF m M B mode 0 = (0, 0) := by
  unfold putF
  dsimp only
  have e : (0 : Rat) / stepF m M 0 = 0 := by grind
  have e2 : ((Sh.whole mode (0 / stepF m M 0) : Int) : Rat) * stepF m M 0 = 0 := by
    rw [e, whole_zero, Rat.intCast_zero]; grind
  rw [e2]
  have h := high_pos m M
  rw [if_pos ⟨by grind, by grind⟩, if_pos rfl]
  rfl
noncomputable def greatest (m M : Nat) : Nat := 2 ^ (m + 1) - 1 + (2 * M - 1) * 2 ^ m
theorem within {m M n : Nat} {e : Int} (hM : 1 ≤ M) (hn : n ≤ 2 ^ (m + 1)) (he : 1 - (M : Int) ≤ e) (hlow : 2 ^ m ≤ n ∨ e = 1 - (M : Int)) :
    (n : Rat) * Sh.two (e - m) ≤ highF m M ↔ n + (e + M - 1).toNat * 2 ^ m ≤ greatest m M := by
  have n2 : ∀ k : Nat, ((2 ^ k : Nat) : Rat) = Sh.two (k : Int) := fun k => by rw [two_nat, natpow]
  have hp := Nat.two_pow_pos m
  have e2 : 2 ^ (m + 1) = 2 ^ m * 2 := Nat.pow_succ _ _
  unfold greatest
  rcases Int.lt_trichotomy e M with c | c | c
  · -- below
    constructor
    · intro _
      have h1 : (e + M - 1).toNat ≤ 2 * M - 2 := by omega
      have h2 := Nat.mul_le_mul_right (2 ^ m) h1
      have h3 : (2 * M - 1) * 2 ^ m = (2 * M - 2) * 2 ^ m + 2 ^ m := by
        have : 2 * M - 1 = 2 * M - 2 + 1 := by omega
        rw [this, Nat.add_mul]; omega
      omega
    · intro _
      have h1 : (n : Rat) * Sh.two (e - m) ≤ ((2 ^ (m + 1) : Nat) : Rat) * Sh.two (e - m) :=
        Rat.mul_le_mul_of_nonneg_right (Rat.natCast_le_natCast.mpr hn) (Rat.le_of_lt (two_pos _))
      have h2 : ((2 ^ (m + 1) : Nat) : Rat) * Sh.two (e - m) = Sh.two (e + 1) := by
        rw [n2, ← two_add]; congr 1; omega
      have h3 : Sh.two (e + 1) ≤ Sh.two M := two_le (by omega)
      have h4 : Sh.two M = ((2 ^ m : Nat) : Rat) * Sh.two ((M : Int) - m) := by
        rw [n2, ← two_add]; congr 1; omega
      have h5 : ((2 ^ m : Nat) : Rat) * Sh.two ((M : Int) - m) ≤ highF m M :=
        Rat.mul_le_mul_of_nonneg_right (Rat.natCast_le_natCast.mpr (by omega)) (Rat.le_of_lt (two_pos _))
      rw [h2] at h1
      rw [← h4] at h5
      exact Rat.le_trans h1 (Rat.le_trans h3 h5)
  · have h1 : (n : Rat) * Sh.two (e - m) ≤ highF m M ↔ n ≤ 2 ^ (m + 1) - 1 := by
      rw [c, high_nat]
      constructor
      · intro h
        exact Rat.natCast_le_natCast.mp (Rat.le_of_mul_le_mul_right h (two_pos _))
      · intro h
        exact Rat.mul_le_mul_of_nonneg_right (Rat.natCast_le_natCast.mpr h) (Rat.le_of_lt (two_pos _))
    rw [h1]
    have h2 : (e + M - 1).toNat = 2 * M - 1 := by omega
    rw [h2]
    omega
  · have g : 2 ^ m ≤ n := by omega
    constructor
    · intro h
      exfalso
      have h1 : ((2 ^ m : Nat) : Rat) * Sh.two (e - m) ≤ (n : Rat) * Sh.two (e - m) :=
        Rat.mul_le_mul_of_nonneg_right (Rat.natCast_le_natCast.mpr g) (Rat.le_of_lt (two_pos _))
      have h2 : ((2 ^ m : Nat) : Rat) * Sh.two (e - m) = Sh.two e := by
        rw [n2, ← two_add]; congr 1; omega
      have h3 : Sh.two (M + 1) ≤ Sh.two e := two_le (by omega)
      have h4 : highF m M < Sh.two (M + 1) := by
        have h5 : Sh.two (M + 1) = ((2 ^ (m + 1) : Nat) : Rat) * Sh.two ((M : Int) - m) := by
          rw [n2, ← two_add]; congr 1; omega
        rw [h5, high_nat]
        exact Rat.mul_lt_mul_of_pos_right (Rat.natCast_lt_natCast.mpr (by omega)) (two_pos _)
      grind
    · intro h
      exfalso
      have h1 : 2 * M ≤ (e + M - 1).toNat := by omega
      have h2 := Nat.mul_le_mul_right (2 ^ m) h1
      have h3 : 2 * M * 2 ^ m = (2 * M - 1) * 2 ^ m + 2 ^ m := by
        have : 2 * M = 2 * M - 1 + 1 := by omega
        rw [this, Nat.add_mul]; simp
      omega
theorem int_signed (n : Int) (u : Rat) : (n : Rat) * u = if decide (n < 0) = true then -((n.natAbs : Rat) * u) else (n.natAbs : Rat) * u := by
  by_cases h : n < 0
  · rw [if_pos (by simpa using h)]
    have e : n = -((n.natAbs : Nat) : Int) := by omega
    have e2 : (n : Rat) = -((n.natAbs : Nat) : Rat) := by
      rw [natcast]
      conv => lhs; rw [e]
      rw [Rat.intCast_neg]
    rw [e2]; grind
  · rw [if_neg (by simpa using h)]
    have e : n = ((n.natAbs : Nat) : Int) := by omega
    have e2 : (n : Rat) = ((n.natAbs : Nat) : Rat) := by
      rw [natcast, ← e]
    rw [← e2]
theorem size_pos {q : Rat} (h : q ≠ 0) : 0 < Sh.size q := by
  unfold Sh.size
  split <;> grind
theorem size_bounds {q : Rat} : -Sh.size q ≤ q ∧ q ≤ Sh.size q := by
  unfold Sh.size
  split <;> grind
theorem whole_size {m M mode : Nat} {q : Rat} (hq : q ≠ 0) {e : Int} (he : e = max (Sh.log2 (Sh.size q)) (1 - (M : Int))) :
    (Sh.whole mode (q / Sh.two (e - m))).natAbs ≤ 2 ^ (m + 1) ∧ (2 ^ m ≤ (Sh.whole mode (q / Sh.two (e - m))).natAbs ∨ e = 1 - (M : Int)) ∧ (Sh.whole mode (q / Sh.two (e - m)) < 0 → q < 0) ∧ (0 < Sh.whole mode (q / Sh.two (e - m)) → 0 < q) := by
  have n2 : ∀ k : Nat, ((2 ^ k : Int) : Rat) = Sh.two (k : Int) := fun k => by rw [two_nat]
  obtain ⟨s1, s2⟩ := log2_spec (size_pos hq)
  obtain ⟨b1, b2⟩ := size_bounds (q := q)
  have up : Sh.size q < Sh.two (e + 1) := by
    have : Sh.two (Sh.log2 (Sh.size q) + 1) ≤ Sh.two (e + 1) := two_le (by omega)
    grind
  have hu := two_pos (e - m)
  have t1 : Sh.two (e + 1) = Sh.two ((m + 1 : Nat) : Int) * Sh.two (e - m) := by rw [← two_add]; congr 1; omega
  have cN : ((((2 ^ (m + 1) : Nat) : Int)) : Rat) = Sh.two ((m + 1 : Nat) : Int) := by rw [Int.natCast_pow]; exact n2 (m + 1)
  refine ⟨?_, ?_, ?_, ?_⟩
  · have h1 : Sh.whole mode (q / Sh.two (e - m)) ≤ ((2 ^ (m + 1) : Nat) : Int) := by
      apply whole_le
      rw [div_le hu, cN, ← t1]; grind
    have h2 : -((2 ^ (m + 1) : Nat) : Int) ≤ Sh.whole mode (q / Sh.two (e - m)) := by
      apply le_whole
      rw [le_div hu, Rat.intCast_neg, cN]
      have : -Sh.two ((m + 1 : Nat) : Int) * Sh.two (e - m) = -Sh.two (e + 1) := by rw [t1]; grind
      rw [this]; grind
    omega
  · by_cases c : e = 1 - (M : Int)
    · exact .inr c
    · left
      have e1 : e = Sh.log2 (Sh.size q) := by omega
      have lo : Sh.two e ≤ Sh.size q := by rw [e1]; exact s1
      have t0 : Sh.two e = Sh.two ((m : Nat) : Int) * Sh.two (e - m) := by rw [← two_add]; congr 1; omega
      have cM : ((((2 ^ m : Nat) : Int)) : Rat) = Sh.two ((m : Nat) : Int) := by rw [Int.natCast_pow]; exact n2 m
      by_cases g : q < 0
      · have h1 : Sh.whole mode (q / Sh.two (e - m)) ≤ -((2 ^ m : Nat) : Int) := by
          apply whole_le
          rw [div_le hu, Rat.intCast_neg, cM]
          have : -Sh.two ((m : Nat) : Int) * Sh.two (e - m) = -Sh.two e := by rw [t0]; grind
          rw [this]
          unfold Sh.size at lo; rw [if_pos g] at lo; grind
        omega
      · have h1 : ((2 ^ m : Nat) : Int) ≤ Sh.whole mode (q / Sh.two (e - m)) := by
          apply le_whole
          rw [le_div hu, cM, ← t0]
          unfold Sh.size at lo; rw [if_neg g] at lo; exact lo
        omega
  · intro h
    apply Rat.not_le.mp
    intro g
    have : (0 : Int) ≤ Sh.whole mode (q / Sh.two (e - m)) := by
      apply le_whole
      rw [le_div hu, Rat.intCast_zero]; grind
    omega
  · intro h
    apply Rat.not_le.mp
    intro g
    have : Sh.whole mode (q / Sh.two (e - m)) ≤ (0 : Int) := by
      apply whole_le
      rw [div_le hu, Rat.intCast_zero]; grind
    omega
theorem raw_high (m M B : Nat) (hM : 1 ≤ M) (neg : Bool) : rawF m M B (if neg = true then -highF m M else highF m M) = rawOf m M B neg (2 ^ (m + 1) - 1) M := by
  have hp := Nat.two_pow_pos m
  have e2 : 2 ^ (m + 1) = 2 ^ m * 2 := Nat.pow_succ _ _
  exact rawF_of (n := 2 ^ (m + 1) - 1) (e := (M : Int)) (neg := neg) (by omega) (by omega) (by omega) (by omega) rfl
theorem rawOf_greatest (m M B : Nat) (hM : 1 ≤ M) (neg : Bool) : rawOf m M B neg (2 ^ (m + 1) - 1) M = (if neg = true then 2 ^ (B - 1) else 0) + greatest m M := by
  unfold rawOf greatest
  have : ((M : Int) + M - 1).toNat = 2 * M - 1 := by omega
  rw [this]
theorem putF_eq {m M B mode : Nat} {q : Rat} (hM : 1 ≤ M) (hq : q ≠ 0) {e : Int} (he : e = max (Sh.log2 (Sh.size q)) (1 - (M : Int))) {n : Int} (hn : n = Sh.whole mode (q / Sh.two (e - m))) :
    putF m M B mode q = if n.natAbs + (e + M - 1).toNat * 2 ^ m ≤ greatest m M then (rawOf m M B (decide (n < 0)) n.natAbs e, if (n : Rat) * Sh.two (e - m) = q then 0 else 1) else ((if n < 0 then 2 ^ (B - 1) else 0) + greatest m M, 5) := by
  obtain ⟨w1, w2, w3, w4⟩ := whole_size (m := m) (mode := mode) hq he
  rw [← hn] at w1 w2 w3 w4
  have he2 : 1 - (M : Int) ≤ e := by omega
  have hs : stepF m M q = Sh.two (e - m) := by
    unfold stepF; rw [if_neg hq, he]
  have wi := within (m := m) hM w1 he2 w2
  have hh := high_pos m M
  have sg := int_signed n (Sh.two (e - m))
  have nn : (0 : Rat) ≤ (n.natAbs : Rat) * Sh.two (e - m) := Rat.mul_nonneg Rat.natCast_nonneg (Rat.le_of_lt (two_pos _))
  unfold putF
  dsimp only
  rw [hs, ← hn]
  by_cases c : n.natAbs + (e + M - 1).toNat * 2 ^ m ≤ greatest m M
  · rw [if_pos c]
    have c2 := wi.mpr c
    have inb : -highF m M ≤ (n : Rat) * Sh.two (e - m) ∧ (n : Rat) * Sh.two (e - m) ≤ highF m M := by
      rw [sg]; split
      · constructor <;> grind
      · constructor <;> grind
    rw [if_pos inb]
    congr 1
    by_cases n0 : n = 0
    · subst n0
      have e1 : e = 1 - (M : Int) := by
        have := Nat.two_pow_pos m
        rcases w2 with g | g
        · exfalso; have : (0 : Int).natAbs = 0 := rfl; omega
        · exact g
      have z : ((0 : Int) : Rat) * Sh.two (e - m) = 0 := by rw [Rat.intCast_zero]; grind
      rw [z]
      unfold rawF rawOf
      rw [if_pos rfl]
      have : (e + M - 1).toNat = 0 := by omega
      rw [this]
      simp
    · exact rawF_of (n := n.natAbs) (e := e) (neg := decide (n < 0)) (by omega) w1 he2 w2 sg
  · rw [if_neg c]
    have c2 : highF m M < (n.natAbs : Rat) * Sh.two (e - m) := Rat.not_le.mp fun h => c (wi.mp h)
    have out : ¬ (-highF m M ≤ (n : Rat) * Sh.two (e - m) ∧ (n : Rat) * Sh.two (e - m) ≤ highF m M) := by
      rw [sg]; split <;> grind
    rw [if_neg out]
    have s2 : ((n : Rat) * Sh.two (e - m) < -highF m M) = (n < 0) := by
      apply propext
      rw [sg]
      by_cases g : n < 0
      · rw [if_pos (by simpa using g)]; constructor
        · intro _; exact g
        · intro _; grind
      · rw [if_neg (by simpa using g)]; constructor
        · intro _; grind
        · intro h; exact absurd h g
    simp only [s2]
    have r := raw_high m M B hM (decide (n < 0))
    have r2 := rawOf_greatest m M B hM (decide (n < 0))
    simp only [decide_eq_true_eq] at r r2
    rw [r, r2]
    rfl
end My
namespace My
open Sh (Fmt How)
end My
namespace My
open Sh (Fmt How)
theorem two_q (k : Int) : Sh.two k = ((2 ^ k.toNat : Int) : Rat) / ((2 ^ (-k).toNat : Int) : Rat) := by
  rcases Int.le_total 0 k with h | h
  · obtain ⟨n, rfl⟩ := Int.eq_ofNat_of_zero_le h
    rw [two_nat]
    have e : (-(n : Int)).toNat = 0 := by omega
    rw [e, Int.toNat_natCast, Int.pow_zero, Rat.intCast_one]; grind
  · obtain ⟨n, hn⟩ := Int.eq_ofNat_of_zero_le (show 0 ≤ -k by omega)
    have e : k = -(n : Int) := by omega
    subst e
    rw [two_neg_nat]
    have e : (-(n : Int)).toNat = 0 := by omega
    rw [e, Int.neg_neg, Int.toNat_natCast, Int.pow_zero, Rat.intCast_one]
noncomputable def mantF (m : Nat) (M r : Nat) : Nat := if r / 2 ^ m % (2 * M + 2) = 0 then r % 2 ^ m else 2 ^ m + r % 2 ^ m
noncomputable def expoF (m M r : Nat) : Int := (if r / 2 ^ m % (2 * M + 2) = 0 then 1 else ((r / 2 ^ m % (2 * M + 2) : Nat) : Int)) - (M : Int) - (m : Int)
noncomputable def valueF (m M B r : Nat) : Rat := if r / 2 ^ (B - 1) % 2 = 1 then -((mantF m M r : Rat) * Sh.two (expoF m M r)) else (mantF m M r : Rat) * Sh.two (expoF m M r)
theorem value32 (r : Nat) : Fmt.f32.value r = valueF 23 127 32 r := by
  unfold Fmt.value valueF mantF expoF
  dsimp only [Fmt.fraction, Fmt.most, Fmt.bits]
  generalize r / 2 ^ 23 % (2 * 127 + 2) = e
  by_cases c : e = 0
  · simp only [c, if_pos]
  · simp only [c, if_false]
theorem value64 (r : Nat) : Fmt.f64.value r = valueF 52 1023 64 r := by
  unfold Fmt.value valueF mantF expoF
  dsimp only [Fmt.fraction, Fmt.most, Fmt.bits]
  generalize r / 2 ^ 52 % (2 * 1023 + 2) = e
  by_cases c : e = 0
  · simp only [c, if_pos]
  · simp only [c, if_false]
noncomputable def sgnF (B r : Nat) : Int := if r / 2 ^ (B - 1) % 2 = 1 then -1 else 1
theorem valueF_q (m M B r : Nat) : valueF m M B r = ((sgnF B r * (mantF m M r : Int) * 2 ^ (expoF m M r).toNat : Int) : Rat) / ((2 ^ (-(expoF m M r)).toNat : Int) : Rat) := by
  unfold valueF sgnF
  rw [two_q]
  rw [Rat.intCast_mul, Rat.intCast_mul]
  split
  · rw [Rat.intCast_neg, Rat.intCast_one, natcast]; grind
  · rw [Rat.intCast_one, natcast]; grind
noncomputable def numFix (w : Nat) (s : Bool) (r : Nat) : Int := if s = true ∧ 2 ^ (w - 1) ≤ r then (r : Int) - 2 ^ w else (r : Int)
theorem valueFix {w : Nat} (p : Nat) (s : Bool) {r : Nat} (h : r < 2 ^ w) : (Fmt.fix w p s).value r = ((numFix w s r : Int) : Rat) / ((2 ^ p : Int) : Rat) := by
  unfold Fmt.value numFix
  dsimp only
  rw [Nat.mod_eq_of_lt h, natpow, Int.natCast_pow]
  split
  · rw [Rat.intCast_sub]; rfl
  · rfl
end My
namespace My
open Sh (isDigit numeral numberOf exponentOf MOST)
inductive St where
  | s0 | s1 | int (n : Nat) | pt (n : Nat) | fr (n : Nat) | e0 | e1 | ed (k : Nat) | sl (n : Nat) | dn (n : Nat) (z : Bool)
  deriving DecidableEq
noncomputable def acc : Option St → Bool
  | some (.int _) => true
  | some (.fr _) => true
  | some (.ed _) => true
  | some (.dn _ z) => z
  | _ => false
end My
namespace My
open Sh (digitsOf)
end My
namespace My
open Sh (Fmt How)
theorem size_q {a b : Int} (hb : 0 < b) : Sh.size ((a : Rat) / b) = ((a.natAbs : Int) : Rat) / b := by
  unfold Sh.size
  split
  · rename_i h
    rw [qlt0 hb] at h
    rw [qneg]
    congr 2
    omega
  · rename_i h
    rw [qlt0 hb] at h
    congr 2
    omega
theorem two_le_q {a b : Int} (hb : 0 < b) (l : Int) : Sh.two l ≤ (a : Rat) / b ↔ b * 2 ^ l.toNat ≤ a * 2 ^ (-l).toNat := by
  rw [two_q, qle (pow2_pos _) hb, Int.mul_comm b]
theorem q_lt_two {a b : Int} (hb : 0 < b) (l : Int) : (a : Rat) / b < Sh.two l ↔ a * 2 ^ (-l).toNat < b * 2 ^ l.toNat := by
  rw [two_q, qlt hb (pow2_pos _), Int.mul_comm b]
theorem log2_q {a b l : Int} (hb : 0 < b) (h1 : b * 2 ^ l.toNat ≤ (a.natAbs : Int) * 2 ^ (-l).toNat) (h2 : (a.natAbs : Int) * 2 ^ (-(l + 1)).toNat < b * 2 ^ (l + 1).toNat) :
    Sh.log2 (Sh.size ((a : Rat) / b)) = l := by
  rw [size_q hb]
  exact log2_unique ((two_le_q hb l).mpr h1) ((q_lt_two hb (l + 1)).mpr h2)
theorem q_two {a b : Int} (hb : 0 < b) (k : Int) : (a : Rat) / b / Sh.two k = ((a * 2 ^ (-k).toNat : Int) : Rat) / ((b * 2 ^ k.toNat : Int) : Rat) := by
  rw [two_q, qdiv hb (pow2_pos _) (Int.ne_of_gt (pow2_pos _))]
theorem exact_two {a b n : Int} (hb : 0 < b) (k : Int) : (n : Rat) * Sh.two k = (a : Rat) / b ↔ n * (b * 2 ^ k.toNat) = a * 2 ^ (-k).toNat := by
  have h := two_pos k
  have e : (n : Rat) * Sh.two k = (a : Rat) / b ↔ (n : Rat) = (a : Rat) / b / Sh.two k := by
    rw [eq_div h]
  rw [e, q_two hb, qone n, qeq (by decide) (Int.mul_pos hb (pow2_pos _)), Int.mul_one]
theorem putF_int {m M B mode : Nat} {a b : Int} (hM : 1 ≤ M) (hb : 0 < b) (ha : a ≠ 0) {l e : Int}
    (h1 : b * 2 ^ l.toNat ≤ (a.natAbs : Int) * 2 ^ (-l).toNat) (h2 : (a.natAbs : Int) * 2 ^ (-(l + 1)).toNat < b * 2 ^ (l + 1).toNat)
    (he : e = max l (1 - (M : Int))) {n : Int} (hn : n = wholeI mode (a * 2 ^ (-(e - m)).toNat) (b * 2 ^ (e - m).toNat)) :
    putF m M B mode ((a : Rat) / b) = if n.natAbs + (e + M - 1).toNat * 2 ^ m ≤ greatest m M then (rawOf m M B (decide (n < 0)) n.natAbs e, if (a * 2 ^ (-(e - m)).toNat) % (b * 2 ^ (e - m).toNat) = 0 then 0 else 1) else ((if n < 0 then 2 ^ (B - 1) else 0) + greatest m M, 5) := by
  have hD : 0 < b * 2 ^ (e - m).toNat := Int.mul_pos hb (pow2_pos _)
  have q0 : (a : Rat) / b ≠ 0 := fun h => ha ((qeq0 hb).mp h)
  have he2 : e = max (Sh.log2 (Sh.size ((a : Rat) / b))) (1 - (M : Int)) := by rw [log2_q hb h1 h2]; exact he
  have hn2 : n = Sh.whole mode ((a : Rat) / b / Sh.two (e - m)) := by rw [q_two hb, whole_div _ hD]; exact hn
  rw [putF_eq hM q0 he2 hn2]
  have ex : ((n : Rat) * Sh.two (e - m) = (a : Rat) / b) = ((a * 2 ^ (-(e - m)).toNat) % (b * 2 ^ (e - m).toNat) = 0) := by
    rw [exact_two hb, hn, whole_exact _ hD]
  simp only [ex]
theorem log2_q_exists {a b : Int} (hb : 0 < b) (ha : 0 < a) : ∃ l : Int, b * 2 ^ l.toNat ≤ a * 2 ^ (-l).toNat ∧ a * 2 ^ (-(l + 1)).toNat < b * 2 ^ (l + 1).toNat ∧ l = Sh.log2 ((a : Rat) / b) := by
  obtain ⟨h1, h2⟩ := log2_spec ((q0lt hb).mpr ha)
  exact ⟨_, (two_le_q hb _).mp h1, (q_lt_two hb _).mp h2, rfl⟩
theorem log2_lens {a b : Int} (hb : 0 < b) (ha : 0 < a) : Sh.log2 ((a : Rat) / b) = (a.natAbs.log2 : Int) - (b.natAbs.log2 : Int) ∨ Sh.log2 ((a : Rat) / b) = (a.natAbs.log2 : Int) - (b.natAbs.log2 : Int) - 1 := by
  obtain ⟨a1, a2⟩ := log2_nat (n := a.natAbs) (by omega)
  obtain ⟨b1, b2⟩ := log2_nat (n := b.natAbs) (by omega)
  have ea : ((a.natAbs : Nat) : Int) = a := by omega
  have eb : ((b.natAbs : Nat) : Int) = b := by omega
  have A1 : Sh.two (a.natAbs.log2 : Int) ≤ (a : Rat) := by
    rw [two_nat, Rat.intCast_le_intCast]; have := Int.ofNat_le.mpr a1; rw [Int.natCast_pow, ea] at this; exact this
  have A2 : (a : Rat) < Sh.two ((a.natAbs.log2 : Int) + 1) := by
    have e : ((a.natAbs.log2 : Int) + 1) = ((a.natAbs.log2 + 1 : Nat) : Int) := by omega
    rw [e, two_nat, Rat.intCast_lt_intCast]; have := Int.ofNat_lt.mpr a2; rw [Int.natCast_pow, ea] at this; exact this
  have B1 : Sh.two (b.natAbs.log2 : Int) ≤ (b : Rat) := by
    rw [two_nat, Rat.intCast_le_intCast]; have := Int.ofNat_le.mpr b1; rw [Int.natCast_pow, eb] at this; exact this
  have B2 : (b : Rat) < Sh.two ((b.natAbs.log2 : Int) + 1) := by
    have e : ((b.natAbs.log2 : Int) + 1) = ((b.natAbs.log2 + 1 : Nat) : Int) := by omega
    rw [e, two_nat, Rat.intCast_lt_intCast]; have := Int.ofNat_lt.mpr b2; rw [Int.natCast_pow, eb] at this; exact this
  generalize (a.natAbs.log2 : Int) = x at *
  generalize (b.natAbs.log2 : Int) = y at *
  have D := ipos hb
  obtain ⟨s1, s2⟩ := log2_spec ((q0lt hb).mpr ha)
  have up : (a : Rat) / b < Sh.two (x - y + 1) := by
    rw [Rat.div_lt_iff D]
    have h1 : Sh.two (x - y + 1) * Sh.two y ≤ Sh.two (x - y + 1) * (b : Rat) := Rat.mul_le_mul_of_nonneg_left B1 (Rat.le_of_lt (two_pos _))
    have h2 : Sh.two (x - y + 1) * Sh.two y = Sh.two (x + 1) := by rw [← two_add]; congr 1; omega
    grind
  have lo : Sh.two (x - y - 1) ≤ (a : Rat) / b := by
    rw [le_div D]
    have h1 : Sh.two (x - y - 1) * (b : Rat) ≤ Sh.two (x - y - 1) * Sh.two (y + 1) := Rat.mul_le_mul_of_nonneg_left (Rat.le_of_lt B2) (Rat.le_of_lt (two_pos _))
    have h2 : Sh.two (x - y - 1) * Sh.two (y + 1) = Sh.two x := by rw [← two_add]; congr 1; omega
    grind
  have c1 : Sh.two (Sh.log2 ((a : Rat) / b)) < Sh.two (x - y + 1) := by grind
  have c2 : Sh.two (x - y - 1) < Sh.two (Sh.log2 ((a : Rat) / b) + 1) := by grind
  rw [two_lt_iff] at c1 c2
  omega
end My

namespace Py
open L2
open Sh (Fmt How)
noncomputable def m_kind_of (c : Int) : Int :=
  (c / (65536))
noncomputable def m_width_of (c : Int) : Int :=
  ((c / (256)) % (256))
noncomputable def m_point_of (c : Int) : Int :=
  (c % (256))
noncomputable def m_is_format (c : Int) : Bool :=
  (if (c ∈ ([(2048), (204800), (212992)] : List Int)) then true else (if (¬ ((m_kind_of c) ∈ ([(1), (2)] : List Int))) then false else (if ((m_width_of c) ∈ ([(8), (16), (32), (64)] : List Int)) then (decide ((m_point_of c) ≤ (m_width_of c))) else false)))
noncomputable def m_sign_bit (c : Int) : Int :=
  ((1) * 2 ^ (((m_width_of c) - (1)) : Int).toNat)
noncomputable def m_infinity_raw (c : Int) : Int :=
  ((m_sign_bit c) - ((1) * 2 ^ ((dictI [(32, 23), (64, 52)] (m_width_of c)) : Int).toNat))
noncomputable def m_greatest_raw (c : Int) : Int :=
  (if ((m_kind_of c) = (1)) then ((m_sign_bit c) - (1)) else (if ((m_kind_of c) = (2)) then (((1) * 2 ^ ((m_width_of c) : Int).toNat) - (1)) else (if ((m_kind_of c) = (3)) then ((m_infinity_raw c) - (1)) else (1))))
noncomputable def m_least_raw (c : Int) : Int :=
  (if ((m_kind_of c) = (1)) then (m_sign_bit c) else (if ((m_kind_of c) = (3)) then ((m_sign_bit c) + (m_greatest_raw c)) else (0)))
noncomputable def m_fits_width (c : Int) (bits : Int) : Bool :=
  (if ((0) ≤ bits) then (decide (bits < ((1) * 2 ^ ((m_width_of c) : Int).toNat))) else false)
noncomputable def m_is_good (c : Int) (r : Int) : Bool :=
  (if ((m_fits_width c r) = true) then (if ((m_kind_of c) = (0)) then (decide (r ≤ (1))) else (if ((m_kind_of c) = (3)) then (if (¬ r = (m_sign_bit c)) then (decide ((r % (m_sign_bit c)) < (m_infinity_raw c))) else false) else true)) else false)
noncomputable def m_common_divisor (a b : Int) : Int := (Int.gcd a b : Nat)
noncomputable def m_is_raw (c : Int) (r : Int) : Bool :=
  (if ((m_is_format c) = true) then (m_is_good c r) else false)
noncomputable def m_steps_of (c : Int) (r : Int) : Int :=
  (if ((m_kind_of c) = (1)) then (if ((m_sign_bit c) ≤ r) then (r - ((1) * 2 ^ ((m_width_of c) : Int).toNat)) else r) else r)
noncomputable def m_float_worth (c : Int) (r : Int) : Int × Int :=
  (if ((0) < ((r % (m_sign_bit c)) / 2 ^ ((dictI [(32, 23), (64, 52)] (m_width_of c)) : Int).toNat)) then (if ((r % (m_sign_bit c)) < r) then (if ((0) ≤ ((-(dictI [(32, 149), (64, 1074)] (m_width_of c))) + (((r % (m_sign_bit c)) / 2 ^ ((dictI [(32, 23), (64, 52)] (m_width_of c)) : Int).toNat) - (1)))) then (((-(((r % (m_sign_bit c)) % ((1) * 2 ^ ((dictI [(32, 23), (64, 52)] (m_width_of c)) : Int).toNat)) + ((1) * 2 ^ ((dictI [(32, 23), (64, 52)] (m_width_of c)) : Int).toNat))) * 2 ^ (((-(dictI [(32, 149), (64, 1074)] (m_width_of c))) + (((r % (m_sign_bit c)) / 2 ^ ((dictI [(32, 23), (64, 52)] (m_width_of c)) : Int).toNat) - (1))) : Int).toNat), (1)) else ((-(((r % (m_sign_bit c)) % ((1) * 2 ^ ((dictI [(32, 23), (64, 52)] (m_width_of c)) : Int).toNat)) + ((1) * 2 ^ ((dictI [(32, 23), (64, 52)] (m_width_of c)) : Int).toNat))), ((1) * 2 ^ ((-((-(dictI [(32, 149), (64, 1074)] (m_width_of c))) + (((r % (m_sign_bit c)) / 2 ^ ((dictI [(32, 23), (64, 52)] (m_width_of c)) : Int).toNat) - (1)))) : Int).toNat))) else (if ((0) ≤ ((-(dictI [(32, 149), (64, 1074)] (m_width_of c))) + (((r % (m_sign_bit c)) / 2 ^ ((dictI [(32, 23), (64, 52)] (m_width_of c)) : Int).toNat) - (1)))) then (((((r % (m_sign_bit c)) % ((1) * 2 ^ ((dictI [(32, 23), (64, 52)] (m_width_of c)) : Int).toNat)) + ((1) * 2 ^ ((dictI [(32, 23), (64, 52)] (m_width_of c)) : Int).toNat)) * 2 ^ (((-(dictI [(32, 149), (64, 1074)] (m_width_of c))) + (((r % (m_sign_bit c)) / 2 ^ ((dictI [(32, 23), (64, 52)] (m_width_of c)) : Int).toNat) - (1))) : Int).toNat), (1)) else ((((r % (m_sign_bit c)) % ((1) * 2 ^ ((dictI [(32, 23), (64, 52)] (m_width_of c)) : Int).toNat)) + ((1) * 2 ^ ((dictI [(32, 23), (64, 52)] (m_width_of c)) : Int).toNat)), ((1) * 2 ^ ((-((-(dictI [(32, 149), (64, 1074)] (m_width_of c))) + (((r % (m_sign_bit c)) / 2 ^ ((dictI [(32, 23), (64, 52)] (m_width_of c)) : Int).toNat) - (1)))) : Int).toNat)))) else (if ((r % (m_sign_bit c)) < r) then (if ((0) ≤ (-(dictI [(32, 149), (64, 1074)] (m_width_of c)))) then (((-((r % (m_sign_bit c)) % ((1) * 2 ^ ((dictI [(32, 23), (64, 52)] (m_width_of c)) : Int).toNat))) * 2 ^ ((-(dictI [(32, 149), (64, 1074)] (m_width_of c))) : Int).toNat), (1)) else ((-((r % (m_sign_bit c)) % ((1) * 2 ^ ((dictI [(32, 23), (64, 52)] (m_width_of c)) : Int).toNat))), ((1) * 2 ^ ((-(-(dictI [(32, 149), (64, 1074)] (m_width_of c)))) : Int).toNat))) else (if ((0) ≤ (-(dictI [(32, 149), (64, 1074)] (m_width_of c)))) then ((((r % (m_sign_bit c)) % ((1) * 2 ^ ((dictI [(32, 23), (64, 52)] (m_width_of c)) : Int).toNat)) * 2 ^ ((-(dictI [(32, 149), (64, 1074)] (m_width_of c))) : Int).toNat), (1)) else (((r % (m_sign_bit c)) % ((1) * 2 ^ ((dictI [(32, 23), (64, 52)] (m_width_of c)) : Int).toNat)), ((1) * 2 ^ ((-(-(dictI [(32, 149), (64, 1074)] (m_width_of c)))) : Int).toNat)))))
noncomputable def m_worth_of (c : Int) (r : Int) : Int × Int :=
  (if ((m_kind_of c) = (3)) then (m_float_worth c r) else ((m_steps_of c r), ((1) * 2 ^ ((m_point_of c) : Int).toNat)))
noncomputable def m_is_less (x_t x_b : Int) (y_t y_b : Int) : Bool :=
  (decide ((x_t * y_b) < (y_t * x_b)))
noncomputable def m_is_mode (mode : Int) : Bool :=
  (if ((0) ≤ mode) then (decide (mode ≤ (4))) else false)
noncomputable def m_in_steps (x_t x_b : Int) (place : Int) : Int × Int :=
  (if ((0) ≤ place) then ((absI x_t), (x_b * 2 ^ (place : Int).toNat)) else (((absI x_t) * 2 ^ ((-place) : Int).toNat), x_b))
noncomputable def m_leading_place (x_t x_b : Int) : Int :=
  (if ((m_in_steps x_t x_b ((bitsI (absI x_t)) - (bitsI x_b))).2 ≤ (m_in_steps x_t x_b ((bitsI (absI x_t)) - (bitsI x_b))).1) then ((bitsI (absI x_t)) - (bitsI x_b)) else (((bitsI (absI x_t)) - (bitsI x_b)) - (1)))
noncomputable def m_quarters (x_t x_b : Int) (place : Int) : Int :=
  (if (((((2) * (m_in_steps x_t x_b place).1) / (m_in_steps x_t x_b place).2) * (m_in_steps x_t x_b place).2) = ((2) * (m_in_steps x_t x_b place).1)) then (((2) * (((2) * (m_in_steps x_t x_b place).1) / (m_in_steps x_t x_b place).2)) + (0)) else (((2) * (((2) * (m_in_steps x_t x_b place).1) / (m_in_steps x_t x_b place).2)) + (1)))
noncomputable def m_is_whole (size : Int) : Bool :=
  (decide ((size % (4)) = (0)))
noncomputable def m_goes_far (size : Int) (mode : Int) (below : Bool) : Bool :=
  (if (mode = (1)) then false else (if (mode = (2)) then (!below) else (if (mode = (3)) then below else (if (¬ (size % (4)) = (2)) then (decide ((size % (4)) = (3))) else (if (mode = (4)) then true else (decide (((size / (4)) % (2)) = (1))))))))
noncomputable def m_rounded (size : Int) (mode : Int) (below : Bool) : Int :=
  (if ((m_is_whole size) = true) then (size / (4)) else (if ((m_goes_far size mode below) = true) then ((size / (4)) + (1)) else (size / (4))))
noncomputable def m_mode_of (how : Int) : Int :=
  (how % (8))
noncomputable def m_holds (how : Int) : Bool :=
  (decide ((8) ≤ how))
noncomputable def m_may_put (f : Int) (how : Int) : Bool :=
  (if ((m_is_format f) = true) then (if ((0) ≤ how) then (if (how ≤ (15)) then (if ((m_is_mode (m_mode_of how)) = true) then (if (¬ (m_kind_of f) = (3)) then true else (m_holds how)) else false) else false) else false) else false)
noncomputable def m_end_raw (f : Int) (below : Bool) : Int :=
  (if (below = true) then (m_least_raw f) else (m_greatest_raw f))
noncomputable def m_put_fixed (x_t x_b : Int) (f : Int) (how : Int) : Int × Int :=
  (if (x_t < (0)) then (if ((m_is_whole (m_quarters x_t x_b (-(m_point_of f)))) = true) then (if ((m_steps_of f (m_least_raw f)) ≤ (-(m_rounded (m_quarters x_t x_b (-(m_point_of f))) (m_mode_of how) (decide (x_t < (0)))))) then (if ((-(m_rounded (m_quarters x_t x_b (-(m_point_of f))) (m_mode_of how) (decide (x_t < (0))))) ≤ (m_steps_of f (m_greatest_raw f))) then ((0), ((-(m_rounded (m_quarters x_t x_b (-(m_point_of f))) (m_mode_of how) (decide (x_t < (0))))) % ((1) * 2 ^ ((m_width_of f) : Int).toNat))) else (if ((m_holds how) = true) then (((1) + (4)), (m_end_raw f (decide (x_t < (0))))) else (((0) + (4)), ((-(m_rounded (m_quarters x_t x_b (-(m_point_of f))) (m_mode_of how) (decide (x_t < (0))))) % ((1) * 2 ^ ((m_width_of f) : Int).toNat))))) else (if ((m_holds how) = true) then (((1) + (4)), (m_end_raw f (decide (x_t < (0))))) else (((0) + (4)), ((-(m_rounded (m_quarters x_t x_b (-(m_point_of f))) (m_mode_of how) (decide (x_t < (0))))) % ((1) * 2 ^ ((m_width_of f) : Int).toNat))))) else (if ((m_steps_of f (m_least_raw f)) ≤ (-(m_rounded (m_quarters x_t x_b (-(m_point_of f))) (m_mode_of how) (decide (x_t < (0)))))) then (if ((-(m_rounded (m_quarters x_t x_b (-(m_point_of f))) (m_mode_of how) (decide (x_t < (0))))) ≤ (m_steps_of f (m_greatest_raw f))) then ((1), ((-(m_rounded (m_quarters x_t x_b (-(m_point_of f))) (m_mode_of how) (decide (x_t < (0))))) % ((1) * 2 ^ ((m_width_of f) : Int).toNat))) else (if ((m_holds how) = true) then (((1) + (4)), (m_end_raw f (decide (x_t < (0))))) else (((1) + (4)), ((-(m_rounded (m_quarters x_t x_b (-(m_point_of f))) (m_mode_of how) (decide (x_t < (0))))) % ((1) * 2 ^ ((m_width_of f) : Int).toNat))))) else (if ((m_holds how) = true) then (((1) + (4)), (m_end_raw f (decide (x_t < (0))))) else (((1) + (4)), ((-(m_rounded (m_quarters x_t x_b (-(m_point_of f))) (m_mode_of how) (decide (x_t < (0))))) % ((1) * 2 ^ ((m_width_of f) : Int).toNat)))))) else (if ((m_is_whole (m_quarters x_t x_b (-(m_point_of f)))) = true) then (if ((m_steps_of f (m_least_raw f)) ≤ (m_rounded (m_quarters x_t x_b (-(m_point_of f))) (m_mode_of how) (decide (x_t < (0))))) then (if ((m_rounded (m_quarters x_t x_b (-(m_point_of f))) (m_mode_of how) (decide (x_t < (0)))) ≤ (m_steps_of f (m_greatest_raw f))) then ((0), ((m_rounded (m_quarters x_t x_b (-(m_point_of f))) (m_mode_of how) (decide (x_t < (0)))) % ((1) * 2 ^ ((m_width_of f) : Int).toNat))) else (if ((m_holds how) = true) then (((1) + (4)), (m_end_raw f (decide (x_t < (0))))) else (((0) + (4)), ((m_rounded (m_quarters x_t x_b (-(m_point_of f))) (m_mode_of how) (decide (x_t < (0)))) % ((1) * 2 ^ ((m_width_of f) : Int).toNat))))) else (if ((m_holds how) = true) then (((1) + (4)), (m_end_raw f (decide (x_t < (0))))) else (((0) + (4)), ((m_rounded (m_quarters x_t x_b (-(m_point_of f))) (m_mode_of how) (decide (x_t < (0)))) % ((1) * 2 ^ ((m_width_of f) : Int).toNat))))) else (if ((m_steps_of f (m_least_raw f)) ≤ (m_rounded (m_quarters x_t x_b (-(m_point_of f))) (m_mode_of how) (decide (x_t < (0))))) then (if ((m_rounded (m_quarters x_t x_b (-(m_point_of f))) (m_mode_of how) (decide (x_t < (0)))) ≤ (m_steps_of f (m_greatest_raw f))) then ((1), ((m_rounded (m_quarters x_t x_b (-(m_point_of f))) (m_mode_of how) (decide (x_t < (0)))) % ((1) * 2 ^ ((m_width_of f) : Int).toNat))) else (if ((m_holds how) = true) then (((1) + (4)), (m_end_raw f (decide (x_t < (0))))) else (((1) + (4)), ((m_rounded (m_quarters x_t x_b (-(m_point_of f))) (m_mode_of how) (decide (x_t < (0)))) % ((1) * 2 ^ ((m_width_of f) : Int).toNat))))) else (if ((m_holds how) = true) then (((1) + (4)), (m_end_raw f (decide (x_t < (0))))) else (((1) + (4)), ((m_rounded (m_quarters x_t x_b (-(m_point_of f))) (m_mode_of how) (decide (x_t < (0)))) % ((1) * 2 ^ ((m_width_of f) : Int).toNat)))))))
noncomputable def m_put_float (x_t x_b : Int) (f : Int) (mode : Int) : Int × Int :=
  (if (x_t = (0)) then ((0), (0)) else (if ((m_greatest_raw f) < ((m_rounded (m_quarters x_t x_b (maxI ((m_leading_place x_t x_b) - (dictI [(32, 23), (64, 52)] (m_width_of f))) (-(dictI [(32, 149), (64, 1074)] (m_width_of f))))) mode (decide (x_t < (0)))) + (((maxI ((m_leading_place x_t x_b) - (dictI [(32, 23), (64, 52)] (m_width_of f))) (-(dictI [(32, 149), (64, 1074)] (m_width_of f)))) - (-(dictI [(32, 149), (64, 1074)] (m_width_of f)))) * 2 ^ ((dictI [(32, 23), (64, 52)] (m_width_of f)) : Int).toNat))) then (((1) + (4)), (m_end_raw f (decide (x_t < (0))))) else (if (x_t < (0)) then (if ((0) < ((m_rounded (m_quarters x_t x_b (maxI ((m_leading_place x_t x_b) - (dictI [(32, 23), (64, 52)] (m_width_of f))) (-(dictI [(32, 149), (64, 1074)] (m_width_of f))))) mode (decide (x_t < (0)))) + (((maxI ((m_leading_place x_t x_b) - (dictI [(32, 23), (64, 52)] (m_width_of f))) (-(dictI [(32, 149), (64, 1074)] (m_width_of f)))) - (-(dictI [(32, 149), (64, 1074)] (m_width_of f)))) * 2 ^ ((dictI [(32, 23), (64, 52)] (m_width_of f)) : Int).toNat))) then (if ((m_is_whole (m_quarters x_t x_b (maxI ((m_leading_place x_t x_b) - (dictI [(32, 23), (64, 52)] (m_width_of f))) (-(dictI [(32, 149), (64, 1074)] (m_width_of f)))))) = true) then ((0), (((m_rounded (m_quarters x_t x_b (maxI ((m_leading_place x_t x_b) - (dictI [(32, 23), (64, 52)] (m_width_of f))) (-(dictI [(32, 149), (64, 1074)] (m_width_of f))))) mode (decide (x_t < (0)))) + (((maxI ((m_leading_place x_t x_b) - (dictI [(32, 23), (64, 52)] (m_width_of f))) (-(dictI [(32, 149), (64, 1074)] (m_width_of f)))) - (-(dictI [(32, 149), (64, 1074)] (m_width_of f)))) * 2 ^ ((dictI [(32, 23), (64, 52)] (m_width_of f)) : Int).toNat)) + (m_sign_bit f))) else ((1), (((m_rounded (m_quarters x_t x_b (maxI ((m_leading_place x_t x_b) - (dictI [(32, 23), (64, 52)] (m_width_of f))) (-(dictI [(32, 149), (64, 1074)] (m_width_of f))))) mode (decide (x_t < (0)))) + (((maxI ((m_leading_place x_t x_b) - (dictI [(32, 23), (64, 52)] (m_width_of f))) (-(dictI [(32, 149), (64, 1074)] (m_width_of f)))) - (-(dictI [(32, 149), (64, 1074)] (m_width_of f)))) * 2 ^ ((dictI [(32, 23), (64, 52)] (m_width_of f)) : Int).toNat)) + (m_sign_bit f)))) else (if ((m_is_whole (m_quarters x_t x_b (maxI ((m_leading_place x_t x_b) - (dictI [(32, 23), (64, 52)] (m_width_of f))) (-(dictI [(32, 149), (64, 1074)] (m_width_of f)))))) = true) then ((0), ((m_rounded (m_quarters x_t x_b (maxI ((m_leading_place x_t x_b) - (dictI [(32, 23), (64, 52)] (m_width_of f))) (-(dictI [(32, 149), (64, 1074)] (m_width_of f))))) mode (decide (x_t < (0)))) + (((maxI ((m_leading_place x_t x_b) - (dictI [(32, 23), (64, 52)] (m_width_of f))) (-(dictI [(32, 149), (64, 1074)] (m_width_of f)))) - (-(dictI [(32, 149), (64, 1074)] (m_width_of f)))) * 2 ^ ((dictI [(32, 23), (64, 52)] (m_width_of f)) : Int).toNat))) else ((1), ((m_rounded (m_quarters x_t x_b (maxI ((m_leading_place x_t x_b) - (dictI [(32, 23), (64, 52)] (m_width_of f))) (-(dictI [(32, 149), (64, 1074)] (m_width_of f))))) mode (decide (x_t < (0)))) + (((maxI ((m_leading_place x_t x_b) - (dictI [(32, 23), (64, 52)] (m_width_of f))) (-(dictI [(32, 149), (64, 1074)] (m_width_of f)))) - (-(dictI [(32, 149), (64, 1074)] (m_width_of f)))) * 2 ^ ((dictI [(32, 23), (64, 52)] (m_width_of f)) : Int).toNat))))) else (if ((m_is_whole (m_quarters x_t x_b (maxI ((m_leading_place x_t x_b) - (dictI [(32, 23), (64, 52)] (m_width_of f))) (-(dictI [(32, 149), (64, 1074)] (m_width_of f)))))) = true) then ((0), ((m_rounded (m_quarters x_t x_b (maxI ((m_leading_place x_t x_b) - (dictI [(32, 23), (64, 52)] (m_width_of f))) (-(dictI [(32, 149), (64, 1074)] (m_width_of f))))) mode (decide (x_t < (0)))) + (((maxI ((m_leading_place x_t x_b) - (dictI [(32, 23), (64, 52)] (m_width_of f))) (-(dictI [(32, 149), (64, 1074)] (m_width_of f)))) - (-(dictI [(32, 149), (64, 1074)] (m_width_of f)))) * 2 ^ ((dictI [(32, 23), (64, 52)] (m_width_of f)) : Int).toNat))) else ((1), ((m_rounded (m_quarters x_t x_b (maxI ((m_leading_place x_t x_b) - (dictI [(32, 23), (64, 52)] (m_width_of f))) (-(dictI [(32, 149), (64, 1074)] (m_width_of f))))) mode (decide (x_t < (0)))) + (((maxI ((m_leading_place x_t x_b) - (dictI [(32, 23), (64, 52)] (m_width_of f))) (-(dictI [(32, 149), (64, 1074)] (m_width_of f)))) - (-(dictI [(32, 149), (64, 1074)] (m_width_of f)))) * 2 ^ ((dictI [(32, 23), (64, 52)] (m_width_of f)) : Int).toNat)))))))
noncomputable def m_put_ratio (x_t x_b : Int) (f : Int) (how : Int) : Int × Int :=
  (if ((m_kind_of f) = (0)) then (if (x_t = (0)) then ((0), (0)) else ((0), (1))) else (if ((m_kind_of f) = (3)) then (m_put_float x_t x_b f (m_mode_of how)) else (m_put_fixed x_t x_b f how)))
noncomputable def m_plus (x_t x_b : Int) (y_t y_b : Int) : Int × Int :=
  (((x_t * (((x_b / (m_common_divisor x_b y_b)) * y_b) / x_b)) + (y_t * (((x_b / (m_common_divisor x_b y_b)) * y_b) / y_b))), ((x_b / (m_common_divisor x_b y_b)) * y_b))
noncomputable def m_minus (x_t x_b : Int) (y_t y_b : Int) : Int × Int :=
  (m_plus x_t x_b (-y_t) y_b)
noncomputable def m_times (x_t x_b : Int) (y_t y_b : Int) : Int × Int :=
  ((x_t * y_t), (x_b * y_b))
noncomputable def m_over (x_t x_b : Int) (y_t y_b : Int) : Int × Int :=
  (if (y_t < (0)) then (((-x_t) * y_b), (x_b * (-y_t))) else ((x_t * y_b), (x_b * y_t)))
open Sh (Fmt)
theorem width_lt (c : Int) : m_width_of c < 256 := by unfold m_width_of; omega
theorem width_nn (c : Int) : 0 ≤ m_width_of c := by unfold m_width_of; omega
theorem memw {x : Int} : x ∈ ([(8), (16), (32), (64)] : List Int) ↔ x = 8 ∨ x = 16 ∨ x = 32 ∨ x = 64 := by simp
theorem mem3 {x : Int} : x ∈ ([(2048), (204800), (212992)] : List Int) ↔ x = 2048 ∨ x = 204800 ∨ x = 212992 := by simp
theorem mem2 {x : Int} : x ∈ ([(1), (2)] : List Int) ↔ x = 1 ∨ x = 2 := by simp
theorem isf_iff (c : Int) : m_is_format c = true ↔ (c = 2048 ∨ c = 204800 ∨ c = 212992) ∨ ((m_kind_of c = 1 ∨ m_kind_of c = 2) ∧ (m_width_of c = 8 ∨ m_width_of c = 16 ∨ m_width_of c = 32 ∨ m_width_of c = 64) ∧ m_point_of c ≤ m_width_of c) := by
  unfold m_is_format
  rw [← mem3, ← mem2, ← memw]
  by_cases h1 : c ∈ ([(2048), (204800), (212992)] : List Int)
  · rw [if_pos h1]; simp [h1]
  · rw [if_neg h1]
    by_cases h2 : m_kind_of c ∈ ([(1), (2)] : List Int)
    · rw [if_neg (fun z => z h2)]
      by_cases h3 : m_width_of c ∈ ([(8), (16), (32), (64)] : List Int)
      · rw [if_pos h3, decide_eq_true_eq]
        constructor
        · intro h; exact .inr ⟨h2, h3, h⟩
        · intro h; exact (h.resolve_left h1).2.2
      · rw [if_neg h3]
        constructor
        · intro h; cases h
        · intro h; exact absurd (h.resolve_left h1).2.1 h3
    · rw [if_pos h2]
      constructor
      · intro h; cases h
      · intro h; exact absurd (h.resolve_left h1).1 h2
theorem isf_pos {c : Int} (h : m_is_format c = true) : 1 ≤ m_width_of c := by
  rcases (isf_iff c).mp h with (h | h | h) | ⟨_, h, _⟩
  · subst h; decide
  · subst h; decide
  · subst h; decide
  · omega
theorem isf_float {c : Int} (h : m_is_format c = true) (k : m_kind_of c = 3) : m_width_of c = 32 ∨ m_width_of c = 64 := by
  rcases (isf_iff c).mp h with (h | h | h) | ⟨g, _, _⟩
  · subst h; exact absurd k (by decide)
  · subst h; exact .inl (by decide)
  · subst h; exact .inr (by decide)
  · omega
inductive IsFmt : Int → Fmt → Prop
  | truth : IsFmt 2048 .truth
  | f32 : IsFmt 204800 .f32
  | f64 : IsFmt 212992 .f64
  | fix {c : Int} {w p : Nat} {s : Bool} (hw : w = 8 ∨ w = 16 ∨ w = 32 ∨ w = 64) (hp : p ≤ w) (hk : c = (if s = true then 65536 else 131072) + w * 256 + p) : IsFmt c (.fix w p s)
theorem told_iff (w p : Nat) (s : Bool) : (Fmt.fix w p s).told = true ↔ (w = 8 ∨ w = 16 ∨ w = 32 ∨ w = 64) ∧ p ≤ w := by
  unfold Fmt.told
  simp [or_assoc]
theorem fmt_of_is {c : Int} {f : Fmt} (h : IsFmt c f) : ShNumSeed.fmt c = some f := by
  cases h with
  | truth => decide
  | f32 => decide
  | f64 => decide
  | @fix _ w p s hw hp hk =>
    have t := (told_iff w p s).mpr ⟨hw, hp⟩
    unfold ShNumSeed.fmt Sh.formatOf
    have e : c.toNat = (if s = true then 65536 else 131072) + w * 256 + p := by
      cases s
      · rw [if_neg (by decide)] at hk ⊢; omega
      · rw [if_pos rfl] at hk ⊢; omega
    have c0 : ¬ c < 0 := by
      cases s
      · rw [if_neg (by decide)] at hk; omega
      · rw [if_pos rfl] at hk; omega
    rw [if_neg c0]
    dsimp only
    cases s
    · rw [if_neg (by decide)] at e
      have k1 : c.toNat / 65536 = 2 := by omega
      have k2 : c.toNat / 256 % 256 = w := by omega
      have k3 : c.toNat % 256 = p := by omega
      rw [k1, k2, k3, if_neg (by decide), if_neg (by decide), if_pos rfl, if_pos t]
    · rw [if_pos rfl] at e
      have k1 : c.toNat / 65536 = 1 := by omega
      have k2 : c.toNat / 256 % 256 = w := by omega
      have k3 : c.toNat % 256 = p := by omega
      rw [k1, k2, k3, if_neg (by decide), if_pos rfl, if_pos t]
theorem is_of_isf {c : Int} (h : m_is_format c = true) : ∃ f, IsFmt c f := by
  rcases (isf_iff c).mp h with (h | h | h) | ⟨h1, h2, h3⟩
  · subst h; exact ⟨_, .truth⟩
  · subst h; exact ⟨_, .f32⟩
  · subst h; exact ⟨_, .f64⟩
  · unfold m_kind_of m_width_of m_point_of at *
    rcases h1 with k | k
    · refine ⟨_, IsFmt.fix (w := (c / 256 % 256).toNat) (p := (c % 256).toNat) (s := true) (by omega) (by omega) ?_⟩
      rw [if_pos rfl]; omega
    · refine ⟨_, IsFmt.fix (w := (c / 256 % 256).toNat) (p := (c % 256).toNat) (s := false) (by omega) (by omega) ?_⟩
      rw [if_neg (by decide)]; omega
theorem isf_of_is {c : Int} {f : Fmt} (h : IsFmt c f) : m_is_format c = true := by
  rw [isf_iff]
  cases h with
  | truth => exact .inl (.inl rfl)
  | f32 => exact .inl (.inr (.inl rfl))
  | f64 => exact .inl (.inr (.inr rfl))
  | @fix _ w p s hw hp hk =>
    right
    unfold m_kind_of m_width_of m_point_of
    cases s
    · rw [if_neg (by decide)] at hk; omega
    · rw [if_pos rfl] at hk; omega
theorem fmt_some {c : Int} {f : Fmt} (h : ShNumSeed.fmt c = some f) : IsFmt c f := by
  unfold ShNumSeed.fmt at h
  split at h
  · cases h
  · rename_i c0
    unfold Sh.formatOf at h
    dsimp only at h
    split at h
    · split at h
      · rename_i k g
        cases h
        have : c = 2048 := by omega
        subst this; exact .truth
      · cases h
    · split at h
      · split at h
        · rename_i g t
          cases h
          obtain ⟨a, b⟩ := (told_iff _ _ _).mp t
          refine .fix a b ?_
          rw [if_pos rfl]; omega
        · cases h
      · split at h
        · split at h
          · rename_i g t
            cases h
            obtain ⟨a, b⟩ := (told_iff _ _ _).mp t
            refine .fix a b ?_
            rw [if_neg (by decide)]; omega
          · cases h
        · split at h
          · split at h
            · cases h
              have : c = 204800 := by omega
              subst this; exact .f32
            · split at h
              · cases h
                have : c = 212992 := by omega
                subst this; exact .f64
              · cases h
          · cases h
theorem fmt_none {c : Int} (h : ¬ m_is_format c = true) : ShNumSeed.fmt c = none := by
  cases e : ShNumSeed.fmt c with
  | none => rfl
  | some f => exact absurd (isf_of_is (fmt_some e)) h

theorem fix_parts {w p : Nat} {s : Bool} {c : Int} (hw : w = 8 ∨ w = 16 ∨ w = 32 ∨ w = 64) (hp : p ≤ w) (hk : c = (if s = true then 65536 else 131072) + w * 256 + p) :
    m_width_of c = (w : Int) ∧ m_point_of c = (p : Int) ∧ m_kind_of c = (if s = true then 1 else 2) := by
  unfold m_width_of m_point_of m_kind_of
  cases s
  · rw [if_neg (by decide)] at hk; rw [if_neg (by decide)]; omega
  · rw [if_pos rfl] at hk; rw [if_pos rfl]; omega
theorem fits_iff (c b : Int) : m_fits_width c b = true ↔ 0 ≤ b ∧ b < 1 * 2 ^ (m_width_of c).toNat := by
  unfold m_fits_width
  by_cases h0 : 0 ≤ b
  · rw [if_pos h0, decide_eq_true_eq]
    exact ⟨fun z => ⟨h0, z⟩, fun z => z.2⟩
  · rw [if_neg h0]
    constructor
    · intro z; cases z
    · intro z; exact absurd z.1 h0
theorem good_is {c r : Int} {f : Fmt} (h : IsFmt c f) : m_is_good c r = true ↔ 0 ≤ r ∧ f.good r.toNat = true := by
  cases h with
  | truth =>
    have fi := fits_iff 2048 r
    have k : m_kind_of 2048 = 0 := by decide
    have e1 : ((1 : Int) * 2 ^ (m_width_of 2048).toNat) = 256 := by decide
    rw [e1] at fi
    unfold m_is_good
    rw [k, if_pos (show (0 : Int) = 0 from rfl)]
    show _ ↔ 0 ≤ r ∧ decide (r.toNat ≤ 1) = true
    rw [decide_eq_true_eq]
    by_cases h1 : m_fits_width 2048 r = true
    · rw [if_pos h1, decide_eq_true_eq]
      have := fi.mp h1
      omega
    · rw [if_neg h1]
      constructor
      · intro z; cases z
      · intro z; exact absurd (fi.mpr (by omega)) h1
  | f32 =>
    have fi := fits_iff 204800 r
    have k : m_kind_of 204800 = 3 := by decide
    have e1 : ((1 : Int) * 2 ^ (m_width_of 204800).toNat) = 4294967296 := by decide
    have e2 : m_sign_bit 204800 = 2147483648 := by decide
    have e3 : m_infinity_raw 204800 = 2139095040 := by decide
    rw [e1] at fi
    unfold m_is_good
    rw [k, if_neg (show ¬ (3 : Int) = 0 by decide), if_pos (show (3 : Int) = 3 from rfl), e2, e3]
    have g : Fmt.good .f32 r.toNat = (decide (r.toNat < 2 ^ 32) && r.toNat / 2 ^ 23 % (2 * 127 + 2) != 2 * 127 + 1 && r.toNat != 2 ^ (32 - 1)) := rfl
    rw [g, Bool.and_eq_true, Bool.and_eq_true, decide_eq_true_eq, bne_iff_ne, bne_iff_ne]
    by_cases h1 : m_fits_width 204800 r = true
    · rw [if_pos h1]
      have := fi.mp h1
      by_cases h2 : r = 2147483648
      · rw [if_neg (fun z => z h2)]
        constructor
        · intro z; cases z
        · intro z; omega
      · rw [if_pos h2, decide_eq_true_eq]; omega
    · rw [if_neg h1]
      constructor
      · intro z; cases z
      · intro z; exact absurd (fi.mpr (by omega)) h1
  | f64 =>
    have fi := fits_iff 212992 r
    have k : m_kind_of 212992 = 3 := by decide
    have e1 : ((1 : Int) * 2 ^ (m_width_of 212992).toNat) = 18446744073709551616 := by decide
    have e2 : m_sign_bit 212992 = 9223372036854775808 := by decide
    have e3 : m_infinity_raw 212992 = 9218868437227405312 := by decide
    rw [e1] at fi
    unfold m_is_good
    rw [k, if_neg (show ¬ (3 : Int) = 0 by decide), if_pos (show (3 : Int) = 3 from rfl), e2, e3]
    have g : Fmt.good .f64 r.toNat = (decide (r.toNat < 2 ^ 64) && r.toNat / 2 ^ 52 % (2 * 1023 + 2) != 2 * 1023 + 1 && r.toNat != 2 ^ (64 - 1)) := rfl
    rw [g, Bool.and_eq_true, Bool.and_eq_true, decide_eq_true_eq, bne_iff_ne, bne_iff_ne]
    by_cases h1 : m_fits_width 212992 r = true
    · rw [if_pos h1]
      have := fi.mp h1
      by_cases h2 : r = 9223372036854775808
      · rw [if_neg (fun z => z h2)]
        constructor
        · intro z; cases z
        · intro z; omega
      · rw [if_pos h2, decide_eq_true_eq]; omega
    · rw [if_neg h1]
      constructor
      · intro z; cases z
      · intro z; exact absurd (fi.mpr (by omega)) h1
  | @fix _ w p s hw hp hk =>
    obtain ⟨ew, ep, ek⟩ := fix_parts hw hp hk
    have fi := fits_iff c r
    unfold m_is_good
    rw [ew, Int.one_mul, Int.toNat_natCast] at fi
    have e : ((2 : Int) ^ w) = ((2 ^ w : Nat) : Int) := by rw [Int.natCast_pow]; rfl
    rw [e] at fi
    have k0 : ¬ (if s = true then (1 : Int) else 2) = 0 := by cases s <;> decide
    have k3 : ¬ (if s = true then (1 : Int) else 2) = 3 := by cases s <;> decide
    rw [ek, if_neg k0, if_neg k3]
    show _ ↔ 0 ≤ r ∧ decide (r.toNat < 2 ^ w) = true
    rw [decide_eq_true_eq]
    by_cases h1 : m_fits_width c r = true
    · rw [if_pos h1]
      have := fi.mp h1
      constructor
      · intro _; omega
      · intro _; rfl
    · rw [if_neg h1]
      constructor
      · intro z; cases z
      · intro z; exact absurd (fi.mpr (by omega)) h1
theorem raw_some {c r : Int} (h : m_is_raw c r = true) : ∃ f, IsFmt c f ∧ 0 ≤ r ∧ f.good r.toNat = true ∧ ShNumSeed.worthOf c r = some (f.value r.toNat) := by
  unfold m_is_raw at h
  split at h
  · rename_i hf
    obtain ⟨f, i⟩ := is_of_isf hf
    obtain ⟨h0, hg⟩ := (good_is i).mp h
    refine ⟨f, i, h0, hg, ?_⟩
    unfold ShNumSeed.worthOf
    rw [fmt_of_is i, Option.bind_some, if_pos (by rw [Bool.and_eq_true, decide_eq_true_eq]; exact ⟨h0, hg⟩)]
  · cases h
theorem raw_none {c r : Int} (h : ¬ m_is_raw c r = true) : ShNumSeed.worthOf c r = none := by
  unfold ShNumSeed.worthOf
  by_cases hf : m_is_format c = true
  · obtain ⟨f, i⟩ := is_of_isf hf
    rw [fmt_of_is i, Option.bind_some, if_neg]
    intro z
    rw [Bool.and_eq_true, decide_eq_true_eq] at z
    refine h ?_
    unfold m_is_raw
    rw [if_pos hf]
    exact (good_is i).mpr z
  · rw [fmt_none hf]; rfl
theorem fw_pos {X Y P E : Int} (hX : X = Y) (hE : P = E) (h : 0 ≤ P) : ((X * 2 ^ P.toNat, 1) : Int × Int) = (Y * 2 ^ E.toNat, 2 ^ (-E).toNat) := by
  subst hX hE
  rw [show (-P).toNat = 0 by omega]
  rfl
theorem fw_neg {X Y P E : Int} (hX : X = Y) (hE : P = E) (h : ¬ 0 ≤ P) : ((X, 1 * 2 ^ (-P).toNat) : Int × Int) = (Y * 2 ^ E.toNat, 2 ^ (-E).toNat) := by
  subst hX hE
  rw [show P.toNat = 0 by omega, Int.one_mul, Int.pow_zero, Int.mul_one]
theorem absI_natAbs (i : Int) : absI i = (i.natAbs : Int) := by
  unfold absI
  split <;> omega
theorem fw_f32 {r : Nat} (h : r < 2 ^ 32) : m_float_worth 204800 (r : Int) = (My.sgnF 32 r * (My.mantF 23 127 r : Int) * 2 ^ (My.expoF 23 127 r).toNat, 2 ^ (-(My.expoF 23 127 r)).toNat) := by
  have d1 : dictI [(32, 23), (64, 52)] (m_width_of 204800) = 23 := by decide
  have d2 : dictI [(32, 149), (64, 1074)] (m_width_of 204800) = 149 := by decide
  have e2 : m_sign_bit 204800 = 2147483648 := by decide
  have p1 : (2 : Int) ^ (23 : Int).toNat = 8388608 := by decide
  unfold m_float_worth
  rw [d1, d2, e2, p1]
  unfold My.sgnF My.mantF My.expoF
  by_cases c1 : r / 2 ^ 23 % (2 * 127 + 2) = 0
  · rw [if_neg (show ¬ (0 : Int) < (r : Int) % 2147483648 / 8388608 by omega), if_pos c1, if_pos c1]
    by_cases c2 : (r : Int) % 2147483648 < (r : Int)
    · rw [if_pos c2, if_pos (show r / 2 ^ (32 - 1) % 2 = 1 by omega), if_neg (show ¬ (0 : Int) ≤ -149 by decide)]
      exact fw_neg (by omega) (by omega) (by decide)
    · rw [if_neg c2, if_neg (show ¬ r / 2 ^ (32 - 1) % 2 = 1 by omega), if_neg (show ¬ (0 : Int) ≤ -149 by decide)]
      exact fw_neg (by omega) (by omega) (by decide)
  · rw [if_pos (show (0 : Int) < (r : Int) % 2147483648 / 8388608 by omega), if_neg c1, if_neg c1]
    by_cases c2 : (r : Int) % 2147483648 < (r : Int)
    · rw [if_pos c2, if_pos (show r / 2 ^ (32 - 1) % 2 = 1 by omega)]
      by_cases c3 : (0 : Int) ≤ (-149 + ((r : Int) % 2147483648 / 8388608 - 1))
      · rw [if_pos c3]
        exact fw_pos (by omega) (by omega) c3
      · rw [if_neg c3]
        exact fw_neg (by omega) (by omega) c3
    · rw [if_neg c2, if_neg (show ¬ r / 2 ^ (32 - 1) % 2 = 1 by omega)]
      by_cases c3 : (0 : Int) ≤ (-149 + ((r : Int) % 2147483648 / 8388608 - 1))
      · rw [if_pos c3]
        exact fw_pos (by omega) (by omega) c3
      · rw [if_neg c3]
        exact fw_neg (by omega) (by omega) c3
theorem fb_f32 {r : Nat} (g : Fmt.good .f32 r = true) : r < 2 ^ 32 ∧ Sz 1025 (My.sgnF 32 r * (My.mantF 23 127 r : Int) * 2 ^ (My.expoF 23 127 r).toNat) ∧ (-(My.expoF 23 127 r)).toNat ≤ 1074 := by
  have g' : (decide (r < 2 ^ 32) && r / 2 ^ 23 % (2 * 127 + 2) != 2 * 127 + 1 && r != 2 ^ (32 - 1)) = true := g
  rw [Bool.and_eq_true, Bool.and_eq_true, decide_eq_true_eq, bne_iff_ne, bne_iff_ne] at g'
  obtain ⟨⟨g1, g2⟩, g3⟩ := g'
  have e1 : (My.expoF 23 127 r).toNat ≤ 104 ∧ (-(My.expoF 23 127 r)).toNat ≤ 1074 := by
    unfold My.expoF
    split <;> omega
  have m1 : My.mantF 23 127 r < 2 ^ (23 + 1) := by
    unfold My.mantF
    split <;> omega
  have s1 : (My.sgnF 32 r).natAbs = 1 := by unfold My.sgnF; split <;> rfl
  refine ⟨g1, ?_, e1.2⟩
  refine Sz.mono (Sz.shl (m := 23 + 1) ?_ e1.1) (by decide)
  unfold Sz
  rw [Int.natAbs_mul, s1, Nat.one_mul]
  exact m1

theorem fw_f64 {r : Nat} (h : r < 2 ^ 64) : m_float_worth 212992 (r : Int) = (My.sgnF 64 r * (My.mantF 52 1023 r : Int) * 2 ^ (My.expoF 52 1023 r).toNat, 2 ^ (-(My.expoF 52 1023 r)).toNat) := by
  have d1 : dictI [(32, 23), (64, 52)] (m_width_of 212992) = 52 := by decide
  have d2 : dictI [(32, 149), (64, 1074)] (m_width_of 212992) = 1074 := by decide
  have e2 : m_sign_bit 212992 = 9223372036854775808 := by decide
  have p1 : (2 : Int) ^ (52 : Int).toNat = 4503599627370496 := by decide
  unfold m_float_worth
  rw [d1, d2, e2, p1]
  unfold My.sgnF My.mantF My.expoF
  by_cases c1 : r / 2 ^ 52 % (2 * 1023 + 2) = 0
  · rw [if_neg (show ¬ (0 : Int) < (r : Int) % 9223372036854775808 / 4503599627370496 by omega), if_pos c1, if_pos c1]
    by_cases c2 : (r : Int) % 9223372036854775808 < (r : Int)
    · rw [if_pos c2, if_pos (show r / 2 ^ (64 - 1) % 2 = 1 by omega), if_neg (show ¬ (0 : Int) ≤ -1074 by decide)]
      exact fw_neg (by omega) (by omega) (by decide)
    · rw [if_neg c2, if_neg (show ¬ r / 2 ^ (64 - 1) % 2 = 1 by omega), if_neg (show ¬ (0 : Int) ≤ -1074 by decide)]
      exact fw_neg (by omega) (by omega) (by decide)
  · rw [if_pos (show (0 : Int) < (r : Int) % 9223372036854775808 / 4503599627370496 by omega), if_neg c1, if_neg c1]
    by_cases c2 : (r : Int) % 9223372036854775808 < (r : Int)
    · rw [if_pos c2, if_pos (show r / 2 ^ (64 - 1) % 2 = 1 by omega)]
      by_cases c3 : (0 : Int) ≤ (-1074 + ((r : Int) % 9223372036854775808 / 4503599627370496 - 1))
      · rw [if_pos c3]
        exact fw_pos (by omega) (by omega) c3
      · rw [if_neg c3]
        exact fw_neg (by omega) (by omega) c3
    · rw [if_neg c2, if_neg (show ¬ r / 2 ^ (64 - 1) % 2 = 1 by omega)]
      by_cases c3 : (0 : Int) ≤ (-1074 + ((r : Int) % 9223372036854775808 / 4503599627370496 - 1))
      · rw [if_pos c3]
        exact fw_pos (by omega) (by omega) c3
      · rw [if_neg c3]
        exact fw_neg (by omega) (by omega) c3
theorem fb_f64 {r : Nat} (g : Fmt.good .f64 r = true) : r < 2 ^ 64 ∧ Sz 1025 (My.sgnF 64 r * (My.mantF 52 1023 r : Int) * 2 ^ (My.expoF 52 1023 r).toNat) ∧ (-(My.expoF 52 1023 r)).toNat ≤ 1074 := by
  have g' : (decide (r < 2 ^ 64) && r / 2 ^ 52 % (2 * 1023 + 2) != 2 * 1023 + 1 && r != 2 ^ (64 - 1)) = true := g
  rw [Bool.and_eq_true, Bool.and_eq_true, decide_eq_true_eq, bne_iff_ne, bne_iff_ne] at g'
  obtain ⟨⟨g1, g2⟩, g3⟩ := g'
  have e1 : (My.expoF 52 1023 r).toNat ≤ 971 ∧ (-(My.expoF 52 1023 r)).toNat ≤ 1074 := by
    unfold My.expoF
    split <;> omega
  have m1 : My.mantF 52 1023 r < 2 ^ (52 + 1) := by
    unfold My.mantF
    split <;> omega
  have s1 : (My.sgnF 64 r).natAbs = 1 := by unfold My.sgnF; split <;> rfl
  refine ⟨g1, ?_, e1.2⟩
  refine Sz.mono (Sz.shl (m := 52 + 1) ?_ e1.1) (by decide)
  unfold Sz
  rw [Int.natAbs_mul, s1, Nat.one_mul]
  exact m1

theorem steps_fix {w p : Nat} {s : Bool} {c : Int} (hw : w = 8 ∨ w = 16 ∨ w = 32 ∨ w = 64) (hp : p ≤ w) (hk : c = (if s = true then 65536 else 131072) + w * 256 + p) (r : Nat) :
    m_steps_of c (r : Int) = My.numFix w s r := by
  obtain ⟨ew, ep, ek⟩ := fix_parts hw hp hk
  unfold m_steps_of m_sign_bit My.numFix
  rw [ew, ek, Int.one_mul, Int.one_mul, Int.toNat_natCast]
  have e1 : ((2 : Int) ^ ((w : Int) - 1).toNat) = ((2 ^ (w - 1) : Nat) : Int) := by rw [Int.natCast_pow, show ((w : Int) - 1).toNat = w - 1 by omega]; rfl
  rw [e1]
  cases s
  · rw [if_neg (show ¬ (if false = true then (1 : Int) else 2) = 1 by decide), if_neg (fun z => by cases z.1)]
  · rw [if_pos (show (if true = true then (1 : Int) else 2) = 1 by decide)]
    by_cases c1 : ((2 ^ (w - 1) : Nat) : Int) ≤ (r : Int)
    · rw [if_pos c1, if_pos ⟨rfl, by omega⟩]
    · rw [if_neg c1, if_neg (fun z => c1 (by omega))]
theorem worth_is {c r : Int} (h : m_is_raw c r = true) : ∃ n : Nat, n ≤ 1074 ∧ (m_worth_of c r).2 = 2 ^ n ∧ Sz 1025 (m_worth_of c r).1 ∧ ShNumSeed.worthOf c r = some (((m_worth_of c r).1 : Rat) / ((m_worth_of c r).2 : Rat)) := by
  obtain ⟨f, i, h0, hg, e⟩ := raw_some h
  obtain ⟨n, rfl⟩ : ∃ n : Nat, r = (n : Int) := ⟨r.toNat, by omega⟩
  rw [Int.toNat_natCast] at hg e
  rw [e]
  unfold m_worth_of
  cases i with
  | truth =>
    have k : m_kind_of 2048 = 0 := by decide
    have pp : m_point_of 2048 = 0 := by decide
    have g : n ≤ 1 := by
      have g' : decide (n ≤ 1) = true := hg
      exact of_decide_eq_true g'
    rw [k, if_neg (by decide), pp]
    unfold m_steps_of
    rw [k, if_neg (by decide)]
    refine ⟨0, by decide, rfl, ?_, ?_⟩
    · refine Sz.mono (m := 1) ?_ (by decide)
      show (n : Int).natAbs < 2 ^ 1
      omega
    · show some (if n = 0 then (0 : Rat) else 1) = some (((n : Int) : Rat) / (((1 * 2 ^ (0 : Int).toNat : Int)) : Rat))
      rw [show (1 * 2 ^ (0 : Int).toNat : Int) = 1 by decide, ← My.qone]
      have : n = 0 ∨ n = 1 := by omega
      rcases this with h | h <;> subst h <;> rfl
  | f32 =>
    have k : m_kind_of 204800 = 3 := by decide
    obtain ⟨g1, g2, g3⟩ := fb_f32 hg
    rw [k, if_pos rfl, fw_f32 g1]
    exact ⟨_, g3, rfl, g2, by rw [My.value32, My.valueF_q]⟩
  | f64 =>
    have k : m_kind_of 212992 = 3 := by decide
    obtain ⟨g1, g2, g3⟩ := fb_f64 hg
    rw [k, if_pos rfl, fw_f64 g1]
    exact ⟨_, g3, rfl, g2, by rw [My.value64, My.valueF_q]⟩
  | @fix _ w p s hw hp hk =>
    obtain ⟨ew, ep, ek⟩ := fix_parts hw hp hk
    have g : n < 2 ^ w := by
      have g' : decide (n < 2 ^ w) = true := hg
      exact of_decide_eq_true g'
    rw [ek, if_neg (by cases s <;> decide), steps_fix hw hp hk, ep, Int.one_mul, Int.toNat_natCast]
    refine ⟨p, by omega, rfl, ?_, by rw [My.valueFix p s g]⟩
    have w64 : 2 ^ w ≤ 2 ^ 64 := Nat.pow_le_pow_right (by decide) (by omega)
    have z64 : (2 : Int) ^ w = ((2 ^ w : Nat) : Int) := by rw [Int.natCast_pow]; rfl
    refine Sz.mono (m := 65) ?_ (by decide)
    unfold Sz My.numFix
    split
    · rw [z64]; omega
    · omega
theorem in_steps_eq (t b place : Int) : m_in_steps t b place = ((t.natAbs : Int) * 2 ^ (-place).toNat, b * 2 ^ place.toNat) := by
  unfold m_in_steps
  rw [absI_natAbs]
  by_cases h : 0 ≤ place
  · rw [if_pos h, show (-place).toNat = 0 by omega, Int.pow_zero, Int.mul_one]
  · rw [if_neg h, show place.toNat = 0 by omega, Int.pow_zero, Int.mul_one]
noncomputable def quartI (T D : Int) : Int := if (2 * T / D) * D = 2 * T then 2 * (2 * T / D) + 0 else 2 * (2 * T / D) + 1
theorem quarters_eq (t b place : Int) : m_quarters t b place = quartI ((t.natAbs : Int) * 2 ^ (-place).toNat) (b * 2 ^ place.toNat) := by
  unfold m_quarters quartI
  rw [in_steps_eq]
theorem quart_is {T D : Int} (hT : 0 ≤ T) (hD : 0 < D) : quartI T D / 4 = T / D ∧ (quartI T D % 4 = 0 ↔ T % D = 0) ∧ (quartI T D % 4 = 2 ↔ 2 * (T % D) = D) ∧ (quartI T D % 4 = 3 ↔ D < 2 * (T % D)) := by
  have e0 := Int.mul_ediv_add_emod T D
  have r0 := Int.emod_nonneg T (show D ≠ 0 by omega)
  have r1 := Int.emod_lt_of_pos T hD
  have e1 : 2 * T = 2 * (T % D) + D * (2 * (T / D)) := by
    have : D * (2 * (T / D)) = 2 * (D * (T / D)) := Int.mul_left_comm ..
    rw [this]; omega
  have e2 : 2 * T / D = 2 * (T % D) / D + 2 * (T / D) := by rw [e1, Int.add_mul_ediv_left _ _ (show D ≠ 0 by omega)]
  unfold quartI
  by_cases c : 2 * (T % D) < D
  · have e3 : 2 * (T % D) / D = 0 := Int.ediv_eq_zero_of_lt (by omega) c
    rw [e3, Int.zero_add] at e2
    rw [e2]
    have e4 : (2 * (T / D) * D = 2 * T) ↔ T % D = 0 := by
      have : 2 * (T / D) * D = 2 * (D * (T / D)) := by rw [Int.mul_assoc, Int.mul_comm (T / D) D]
      rw [this]
      constructor <;> intro z <;> omega
    by_cases c2 : T % D = 0
    · rw [if_pos (e4.mpr c2)]; omega
    · rw [if_neg (fun z => c2 (e4.mp z))]; omega
  · have e3 : 2 * (T % D) / D = 1 := by
      have : 2 * (T % D) = (2 * (T % D) - D) + D * 1 := by omega
      rw [this, Int.add_mul_ediv_left _ _ (show D ≠ 0 by omega), Int.ediv_eq_zero_of_lt (by omega) (by omega)]
      rfl
    rw [e3] at e2
    rw [e2]
    have e4 : ((1 + 2 * (T / D)) * D = 2 * T) ↔ 2 * (T % D) = D := by
      have : (1 + 2 * (T / D)) * D = D + 2 * (D * (T / D)) := by rw [Int.add_mul, Int.one_mul, Int.mul_assoc, Int.mul_comm (T / D) D]
      rw [this]
      constructor <;> intro z <;> omega
    by_cases c2 : 2 * (T % D) = D
    · rw [if_pos (e4.mpr c2)]; omega
    · rw [if_neg (fun z => c2 (e4.mp z))]; omega
theorem neg_parts {T D : Int} (hD : 0 < D) : ((-T) % D = 0 ↔ T % D = 0) ∧ (T % D = 0 → (-T) / D = -(T / D)) ∧ (¬ T % D = 0 → (-T) / D = -(T / D) - 1 ∧ (-T) % D = D - T % D) := by
  have e0 := Int.mul_ediv_add_emod T D
  have r0 := Int.emod_nonneg T (show D ≠ 0 by omega)
  have r1 := Int.emod_lt_of_pos T hD
  by_cases c : T % D = 0
  · have e : -T = 0 + D * (-(T / D)) := by rw [Int.mul_neg]; omega
    have h1 : (-T) % D = 0 := by rw [e, Int.add_mul_emod_self_left]; rfl
    have h2 : (-T) / D = -(T / D) := by rw [e, Int.add_mul_ediv_left _ _ (show D ≠ 0 by omega)]; simp
    exact ⟨⟨fun _ => c, fun _ => h1⟩, fun _ => h2, fun z => absurd c z⟩
  · have e : -T = (D - T % D) + D * (-(T / D) - 1) := by rw [Int.mul_sub, Int.mul_neg]; omega
    have h1 : (-T) % D = D - T % D := by rw [e, Int.add_mul_emod_self_left, Int.emod_eq_of_lt (by omega) (by omega)]
    have h2 : (-T) / D = -(T / D) - 1 := by
      rw [e, Int.add_mul_ediv_left _ _ (show D ≠ 0 by omega), Int.ediv_eq_zero_of_lt (by omega) (by omega)]; simp
    exact ⟨⟨fun z => by omega, fun z => absurd z c⟩, fun z => absurd z c, fun _ => ⟨h2, h1⟩⟩
theorem rounded_far (Z : Int) (mode : Int) (s : Bool) : m_rounded Z mode s = if Z % 4 = 0 then Z / 4 else if m_goes_far Z mode s = true then Z / 4 + 1 else Z / 4 := by
  unfold m_rounded m_is_whole
  by_cases c : Z % 4 = 0
  · rw [if_pos c, if_pos (by rw [decide_eq_true_eq]; exact c)]
  · rw [if_neg c, if_neg (by rw [decide_eq_true_eq]; exact c)]
theorem far_iff (Z : Int) (m : Nat) (s : Bool) : m_goes_far Z (m : Int) s = true ↔ (m = 2 ∧ s = false) ∨ (m = 3 ∧ s = true) ∨ (m ≠ 1 ∧ m ≠ 2 ∧ m ≠ 3 ∧ (Z % 4 = 3 ∨ (Z % 4 = 2 ∧ (m = 4 ∨ Z / 4 % 2 = 1)))) := by
  unfold m_goes_far
  by_cases c1 : m = 1
  · subst c1; simp
  · rw [if_neg (by omega)]
    by_cases c2 : m = 2
    · subst c2; cases s <;> simp
    · rw [if_neg (by omega)]
      by_cases c3 : m = 3
      · subst c3; cases s <;> simp
      · rw [if_neg (by omega)]
        by_cases c4 : Z % 4 = 2
        · rw [if_neg (fun z => z c4)]
          by_cases c5 : m = 4
          · subst c5; simp [c4]
          · rw [if_neg (by omega), decide_eq_true_eq]; omega
        · rw [if_pos c4, decide_eq_true_eq]; omega
theorem round_pos {T D : Int} (hT : 0 ≤ T) (hD : 0 < D) (m : Nat) : m_rounded (quartI T D) (m : Int) false = My.wholeI m T D := by
  obtain ⟨q1, q2, q3, q4⟩ := quart_is hT hD
  have r1 := Int.emod_lt_of_pos T hD
  have r0 := Int.emod_nonneg T (show D ≠ 0 by omega)
  rw [rounded_far, q1]
  unfold My.wholeI
  by_cases c : T % D = 0
  · rw [if_pos (q2.mpr c), if_pos c]
  · rw [if_neg (fun z => c (q2.mp z)), if_neg c]
    have F := far_iff (quartI T D) m false
    rw [q1, q3, q4] at F
    by_cases c1 : m = 1
    · rw [if_pos c1, if_pos hT, if_neg (fun z => by have := F.mp z; omega)]
    · rw [if_neg c1]
      by_cases c2 : m = 2
      · rw [if_pos c2, if_pos (F.mpr (.inl ⟨c2, rfl⟩))]
      · rw [if_neg c2]
        by_cases c3 : m = 3
        · rw [if_pos c3, if_neg (fun z => by have := F.mp z; simp [c3] at this)]
        · rw [if_neg c3]
          by_cases c4 : 2 * (T % D) < D
          · rw [if_pos c4, if_neg (fun z => by have := F.mp z; omega)]
          · rw [if_neg c4]
            by_cases c5 : D < 2 * (T % D)
            · rw [if_pos c5, if_pos (F.mpr (by omega))]
            · rw [if_neg c5]
              by_cases c6 : m = 4
              · rw [if_pos c6, if_pos hT, if_pos (F.mpr (by omega))]
              · rw [if_neg c6]
                by_cases c7 : T / D % 2 = 0
                · rw [if_pos c7, if_neg (fun z => by have := F.mp z; omega)]
                · rw [if_neg c7, if_pos (F.mpr (by omega))]
theorem round_neg {T D : Int} (hT : 0 ≤ T) (hD : 0 < D) (m : Nat) : -(m_rounded (quartI T D) (m : Int) true) = My.wholeI m (-T) D := by
  obtain ⟨q1, q2, q3, q4⟩ := quart_is hT hD
  obtain ⟨n1, n2, n3⟩ := neg_parts (T := T) hD
  have r1 := Int.emod_lt_of_pos T hD
  have r0 := Int.emod_nonneg T (show D ≠ 0 by omega)
  rw [rounded_far, q1]
  unfold My.wholeI
  by_cases c : T % D = 0
  · rw [if_pos (q2.mpr c), if_pos (n1.mpr c), n2 c]
  · obtain ⟨n4, n5⟩ := n3 c
    have T0 : ¬ 0 ≤ -T := by
      intro z
      have : T = 0 := by omega
      rw [this] at c; simp at c
    rw [if_neg (fun z => c (q2.mp z)), if_neg (fun z => c (n1.mp z)), n4, n5]
    have F := far_iff (quartI T D) m true
    rw [q1, q3, q4] at F
    by_cases c1 : m = 1
    · rw [if_pos c1, if_neg T0, if_neg (fun z => by have := F.mp z; omega)]; omega
    · rw [if_neg c1]
      by_cases c2 : m = 2
      · rw [if_pos c2, if_neg (fun z => by have := F.mp z; simp [c2] at this)]; omega
      · rw [if_neg c2]
        by_cases c3 : m = 3
        · rw [if_pos c3, if_pos (F.mpr (.inr (.inl ⟨c3, rfl⟩)))]; omega
        · rw [if_neg c3]
          by_cases c4 : D < 2 * (T % D)
          · rw [if_pos (show 2 * (D - T % D) < D by omega), if_pos (F.mpr (by omega))]; omega
          · rw [if_neg (show ¬ 2 * (D - T % D) < D by omega)]
            by_cases c5 : 2 * (T % D) < D
            · rw [if_pos (show D < 2 * (D - T % D) by omega), if_neg (fun z => by have := F.mp z; omega)]; omega
            · rw [if_neg (show ¬ D < 2 * (D - T % D) by omega)]
              by_cases c6 : m = 4
              · rw [if_pos c6, if_neg T0, if_pos (F.mpr (by omega))]; omega
              · rw [if_neg c6]
                by_cases c7 : T / D % 2 = 0
                · rw [if_neg (show ¬ (-(T / D) - 1) % 2 = 0 by omega), if_neg (fun z => by have := F.mp z; omega)]; omega
                · rw [if_pos (show (-(T / D) - 1) % 2 = 0 by omega), if_pos (F.mpr (by omega))]; omega
theorem rounded_nn {T D : Int} (hT : 0 ≤ T) (hD : 0 < D) (mode : Int) (s : Bool) : T / D ≤ m_rounded (quartI T D) mode s := by
  rw [rounded_far, (quart_is hT hD).1]
  split
  · omega
  · split <;> omega
theorem round_is {t b place : Int} (hb : 0 < b) (m : Nat) :
    (My.wholeI m (t * 2 ^ (-place).toNat) (b * 2 ^ place.toNat) = if t < 0 then -(m_rounded (m_quarters t b place) (m : Int) (decide (t < 0))) else m_rounded (m_quarters t b place) (m : Int) (decide (t < 0))) ∧
    (m_is_whole (m_quarters t b place) = true ↔ (t * 2 ^ (-place).toNat) % (b * 2 ^ place.toNat) = 0) ∧
    ((t.natAbs : Int) * 2 ^ (-place).toNat) / (b * 2 ^ place.toNat) ≤ m_rounded (m_quarters t b place) (m : Int) (decide (t < 0)) ∧ 0 ≤ ((t.natAbs : Int) * 2 ^ (-place).toNat) / (b * 2 ^ place.toNat) := by
  have hD : 0 < b * 2 ^ place.toNat := Int.mul_pos hb (My.pow2_pos _)
  have hT : 0 ≤ (t.natAbs : Int) * 2 ^ (-place).toNat := Int.mul_nonneg (by omega) (Int.le_of_lt (My.pow2_pos _))
  rw [quarters_eq]
  have w : m_is_whole (quartI ((t.natAbs : Int) * 2 ^ (-place).toNat) (b * 2 ^ place.toNat)) = true ↔ ((t.natAbs : Int) * 2 ^ (-place).toNat) % (b * 2 ^ place.toNat) = 0 := by
    unfold m_is_whole
    rw [decide_eq_true_eq]
    exact (quart_is hT hD).2.1
  have nn := Int.ediv_nonneg hT (Int.le_of_lt hD)
  by_cases h : t < 0
  · have e : t * 2 ^ (-place).toNat = -((t.natAbs : Int) * 2 ^ (-place).toNat) := by rw [← Int.neg_mul]; congr 1; omega
    rw [if_pos h, e, decide_eq_true h]
    exact ⟨(round_neg hT hD m).symm, w.trans (neg_parts hD).1.symm, rounded_nn hT hD _ _, nn⟩
  · have e : t * 2 ^ (-place).toNat = (t.natAbs : Int) * 2 ^ (-place).toNat := by congr 1; omega
    rw [if_neg h, decide_eq_false h]
    rw [e]
    exact ⟨(round_pos hT hD m).symm, w, rounded_nn hT hD _ _, nn⟩

theorem worth_pos {c r : Int} (h : m_is_raw c r = true) : 0 < (m_worth_of c r).2 := by
  obtain ⟨n, _, hb, _⟩ := worth_is h
  rw [hb]; exact My.pow2_pos n
theorem worth_some {c r : Int} (h : m_is_raw c r = true) : ShNumSeed.worthOf c r = some (((m_worth_of c r).1 : Rat) / ((m_worth_of c r).2 : Rat)) := by
  obtain ⟨n, _, _, _, e⟩ := worth_is h
  exact e
theorem less_iff {a b c d : Int} (hb : 0 < b) (hd : 0 < d) : m_is_less a b c d = true ↔ (a : Rat) / b < (c : Rat) / d := by
  unfold m_is_less
  rw [decide_eq_true_eq, My.qlt hb hd]
theorem le_mul_one {a b : Int} (ha : 0 ≤ a) (hb : 1 ≤ b) : a ≤ a * b := by
  have := Int.mul_le_mul_of_nonneg_left hb ha
  rw [Int.mul_one] at this
  exact this
theorem put_fixed_nice (t b f how : Int) : m_put_fixed t b f how =
    (if m_steps_of f (m_least_raw f) ≤ (if t < 0 then -(m_rounded (m_quarters t b (-(m_point_of f))) (m_mode_of how) (decide (t < 0))) else m_rounded (m_quarters t b (-(m_point_of f))) (m_mode_of how) (decide (t < 0)))
        ∧ (if t < 0 then -(m_rounded (m_quarters t b (-(m_point_of f))) (m_mode_of how) (decide (t < 0))) else m_rounded (m_quarters t b (-(m_point_of f))) (m_mode_of how) (decide (t < 0))) ≤ m_steps_of f (m_greatest_raw f)
      then ((if m_is_whole (m_quarters t b (-(m_point_of f))) = true then 0 else 1), (if t < 0 then -(m_rounded (m_quarters t b (-(m_point_of f))) (m_mode_of how) (decide (t < 0))) else m_rounded (m_quarters t b (-(m_point_of f))) (m_mode_of how) (decide (t < 0))) % (1 * 2 ^ (m_width_of f).toNat))
      else if m_holds how = true then (5, m_end_raw f (decide (t < 0)))
      else ((if m_is_whole (m_quarters t b (-(m_point_of f))) = true then 0 else 1) + 4, (if t < 0 then -(m_rounded (m_quarters t b (-(m_point_of f))) (m_mode_of how) (decide (t < 0))) else m_rounded (m_quarters t b (-(m_point_of f))) (m_mode_of how) (decide (t < 0))) % (1 * 2 ^ (m_width_of f).toNat))) := by
  unfold m_put_fixed
  generalize m_rounded (m_quarters t b (-(m_point_of f))) (m_mode_of how) (decide (t < 0)) = R
  generalize m_quarters t b (-(m_point_of f)) = Z
  generalize m_steps_of f (m_least_raw f) = lo
  generalize m_steps_of f (m_greatest_raw f) = hi
  by_cases h : t < 0
  · simp only [if_pos h]
    by_cases h2 : m_is_whole Z = true <;> by_cases h3 : lo ≤ -R <;> by_cases h4 : -R ≤ hi <;> by_cases h5 : m_holds how = true <;> simp [h2, h3, h4, h5]
  · simp only [if_neg h]
    by_cases h2 : m_is_whole Z = true <;> by_cases h3 : lo ≤ R <;> by_cases h4 : R ≤ hi <;> by_cases h5 : m_holds how = true <;> simp [h2, h3, h4, h5]
theorem fix_ends {w p : Nat} {s : Bool} {c : Int} (hw : w = 8 ∨ w = 16 ∨ w = 32 ∨ w = 64) (hp : p ≤ w) (hk : c = (if s = true then 65536 else 131072) + w * 256 + p) :
    m_steps_of c (m_least_raw c) = My.fixLo w s ∧ m_steps_of c (m_greatest_raw c) = My.fixHi w s ∧ m_least_raw c = ((My.fixLo w s % 2 ^ w).toNat : Int) ∧ m_greatest_raw c = ((My.fixHi w s % 2 ^ w).toNat : Int) := by
  obtain ⟨ew, ep, ek⟩ := fix_parts hw hp hk
  unfold m_steps_of m_least_raw m_greatest_raw m_sign_bit
  rw [ew]
  generalize m_infinity_raw c = x
  clear hk ew
  cases s
  · have ek : m_kind_of c = 2 := ek
    rw [ek]
    simp only [if_neg (show ¬ (2 : Int) = 1 by decide), if_neg (show ¬ (2 : Int) = 3 by decide), if_pos (show (2 : Int) = 2 by decide), if_true]
    clear ek
    rcases hw with h | h | h | h <;> subst h <;> decide
  · have ek : m_kind_of c = 1 := ek
    rw [ek]
    simp only [if_pos (show (1 : Int) = 1 by decide), if_true]
    clear ek
    rcases hw with h | h | h | h <;> subst h <;> decide
theorem may_iff {f how : Int} {g : Fmt} (i : IsFmt f g) : m_may_put f how = true ↔ 0 ≤ how ∧ how < 16 ∧ how % 8 ≤ 4 ∧ (g.isFloat = true → 8 ≤ how) := by
  have k : m_kind_of f = 3 ↔ g.isFloat = true := by
    cases i with
    | truth => decide
    | f32 => decide
    | f64 => decide
    | @fix _ w p s hw hp hk =>
      rw [(fix_parts hw hp hk).2.2]
      cases s <;> simp [Fmt.isFloat]
  unfold m_may_put m_is_mode m_mode_of m_holds
  rw [if_pos (isf_of_is i)]
  by_cases h0 : 0 ≤ how
  · rw [if_pos h0]
    by_cases h1 : how ≤ 15
    · rw [if_pos h1]
      have h2 : 0 ≤ how % 8 := by omega
      by_cases h3 : how % 8 ≤ 4
      · simp only [if_pos h2, decide_eq_true h3, if_true]
        by_cases h4 : m_kind_of f = 3
        · rw [if_neg (fun z => z h4), decide_eq_true_eq]
          have := k.mp h4
          constructor
          · intro z; exact ⟨h0, by omega, h3, fun _ => z⟩
          · intro z; exact z.2.2.2 this
        · rw [if_pos h4]
          constructor
          · intro _; exact ⟨h0, by omega, h3, fun z => absurd (k.mpr z) h4⟩
          · intro _; rfl
      · simp only [if_pos h2, decide_eq_false h3]
        constructor
        · intro z; simp at z
        · intro z; omega
    · rw [if_neg h1]
      constructor
      · intro z; cases z
      · intro z; omega
  · rw [if_neg h0]
    constructor
    · intro z; cases z
    · intro z; omega
theorem result_some {f how : Int} (h : m_may_put f how = true) : ∃ g, IsFmt f g ∧ 0 ≤ how ∧ how < 16 ∧ how % 8 ≤ 4 ∧ (g.isFloat = true → 8 ≤ how) ∧ ShNumSeed.result f how = some (g, ⟨(how % 8).toNat, (how / 8).toNat⟩) := by
  have hf : m_is_format f = true := by
    unfold m_may_put at h
    split at h
    · assumption
    · cases h
  obtain ⟨g, i⟩ := is_of_isf hf
  obtain ⟨h0, h1, h2, h3⟩ := (may_iff i).mp h
  refine ⟨g, i, h0, h1, h2, h3, ?_⟩
  unfold ShNumSeed.result
  rw [fmt_of_is i, Option.bind_some, if_pos]
  rw [Bool.and_eq_true, Bool.and_eq_true, Bool.and_eq_true, Bool.or_eq_true, decide_eq_true_eq, decide_eq_true_eq, decide_eq_true_eq]
  refine ⟨h0, h1, h2, ?_⟩
  by_cases c : g.isFloat = true
  · right
    have := h3 c
    rw [beq_iff_eq]; omega
  · left; simpa using c
theorem result_none {f how : Int} (h : ¬ m_may_put f how = true) : ShNumSeed.result f how = none := by
  unfold ShNumSeed.result
  by_cases hf : m_is_format f = true
  · obtain ⟨g, i⟩ := is_of_isf hf
    rw [fmt_of_is i, Option.bind_some, if_neg]
    intro z
    rw [Bool.and_eq_true, Bool.and_eq_true, Bool.and_eq_true, Bool.or_eq_true, decide_eq_true_eq, decide_eq_true_eq, decide_eq_true_eq] at z
    obtain ⟨z0, z1, z2, z3⟩ := z
    refine h ((may_iff i).mpr ⟨z0, z1, z2, fun c => ?_⟩)
    rcases z3 with z3 | z3
    · rw [c] at z3; cases z3
    · rw [beq_iff_eq] at z3; omega
  · rw [fmt_none hf]; rfl
theorem put_fixed_is {w p : Nat} {s : Bool} {f how t b : Int} (hw : w = 8 ∨ w = 16 ∨ w = 32 ∨ w = 64) (hp : p ≤ w) (hk : f = (if s = true then 65536 else 131072) + w * 256 + p) (hb : 0 < b) (h0 : 0 ≤ how) (h1 : how < 16) :
    m_put_fixed t b f how = (((My.putFix w p s (how % 8).toNat (how / 8).toNat t b).2 : Int), ((My.putFix w p s (how % 8).toNat (how / 8).toNat t b).1 : Int)) := by
  obtain ⟨ew, ep, ek⟩ := fix_parts hw hp hk
  obtain ⟨l1, l2, l3, l4⟩ := fix_ends hw hp hk
  have hm : m_mode_of how = (((how % 8).toNat : Nat) : Int) := by unfold m_mode_of; omega
  obtain ⟨r1, r2, r3, r4⟩ := round_is (t := t) (place := -(p : Int)) hb (how % 8).toNat
  rw [show (- -(p : Int)).toNat = p by omega, show (-(p : Int)).toNat = 0 by omega, Int.pow_zero, Int.mul_one] at r1 r2 r3 r4
  rw [put_fixed_nice, ep, hm, ← r1, l1, l2, ew, Int.one_mul, Int.toNat_natCast]
  unfold My.putFix
  dsimp only
  have hlo : My.fixLo w s ≤ 0 := by
    have := My.pow2_pos (w - 1)
    unfold My.fixLo; split <;> omega
  have hhi : 0 ≤ My.fixHi w s := by
    have := My.pow2_pos (w - 1)
    have := My.pow2_pos w
    unfold My.fixHi; split <;> omega
  have sg : (t < 0 → My.wholeI (how % 8).toNat (t * 2 ^ p) b ≤ 0) ∧ (¬ t < 0 → 0 ≤ My.wholeI (how % 8).toNat (t * 2 ^ p) b) := by
    constructor
    · intro c; rw [r1, if_pos c]; omega
    · intro c; rw [r1, if_neg c]; omega
  generalize My.wholeI (how % 8).toNat (t * 2 ^ p) b = k at *
  have hmod : ((k % 2 ^ w).toNat : Int) = k % 2 ^ w := by
    have := Int.emod_nonneg k (show (2 : Int) ^ w ≠ 0 from Int.ne_of_gt (My.pow2_pos w))
    omega
  have fl : ((if m_is_whole (m_quarters t b (-(p : Int))) = true then 0 else 1 : Int)) = (((if (t * 2 ^ p) % b = 0 then 0 else 1 : Nat)) : Int) := by
    by_cases c : (t * 2 ^ p) % b = 0
    · rw [if_pos (r2.mpr c), if_pos c]; rfl
    · rw [if_neg (fun z => c (r2.mp z)), if_neg c]; rfl
  have fl4 : (((if (t * 2 ^ p) % b = 0 then 0 else 1 : Nat) ||| 4 : Nat) : Int) = (((if (t * 2 ^ p) % b = 0 then 0 else 1 : Nat)) : Int) + 4 := by
    by_cases c : (t * 2 ^ p) % b = 0
    · rw [if_pos c]; rfl
    · rw [if_neg c]; rfl
  rw [fl]
  by_cases c1 : My.fixLo w s ≤ k ∧ k ≤ My.fixHi w s
  · rw [if_pos c1, if_pos c1]
    dsimp only
    rw [hmod]
  · rw [if_neg c1, if_neg c1]
    have hh : m_holds how = true ↔ ¬ (how / 8).toNat = 0 := by unfold m_holds; rw [decide_eq_true_eq]; omega
    by_cases c2 : m_holds how = true
    · rw [if_pos c2, if_neg (hh.mp c2)]
      unfold m_end_raw
      by_cases c3 : k < My.fixLo w s
      · have : t < 0 := Decidable.byContradiction fun z => by have := sg.2 z; omega
        rw [if_pos c3, decide_eq_true this, if_pos rfl, l3]
        rfl
      · have : ¬ t < 0 := fun z => by have := sg.1 z; omega
        rw [if_neg c3, decide_eq_false this, if_neg (by decide), l4]
        rfl
    · rw [if_neg c2, if_pos (Decidable.byContradiction fun z => c2 (hh.mpr z))]
      dsimp only
      rw [hmod, fl4]
theorem lead_is {t b : Int} (hb : 0 < b) (ht : t ≠ 0) : b * 2 ^ (m_leading_place t b).toNat ≤ (t.natAbs : Int) * 2 ^ (-(m_leading_place t b)).toNat ∧ (t.natAbs : Int) * 2 ^ (-(m_leading_place t b + 1)).toNat < b * 2 ^ (m_leading_place t b + 1).toNat := by
  have hT : 0 < (t.natAbs : Int) := by omega
  obtain ⟨l, h1, h2, h3⟩ := My.log2_q_exists hb hT
  have h4 := My.log2_lens hb hT
  rw [← h3, show ((t.natAbs : Int)).natAbs = t.natAbs from Int.natAbs_natCast _] at h4
  have p0 : bitsI (absI t) - bitsI b = (t.natAbs.log2 : Int) - (b.natAbs.log2 : Int) := by
    unfold bitsI
    rw [absI_natAbs, if_neg (by omega), if_neg (by omega), Int.natAbs_natCast]
    omega
  have e : m_leading_place t b = l := by
    unfold m_leading_place
    rw [p0, in_steps_eq]
    dsimp only
    generalize (t.natAbs.log2 : Int) - (b.natAbs.log2 : Int) = P at *
    by_cases c : b * 2 ^ P.toNat ≤ (t.natAbs : Int) * 2 ^ (-P).toNat
    · rw [if_pos c]
      rcases h4 with h | h
      · exact h.symm
      · rw [show l + 1 = P by omega] at h2
        omega
    · rw [if_neg c]
      rcases h4 with h | h
      · rw [h] at h1; exact absurd h1 c
      · omega
  rw [e]
  exact ⟨h1, h2⟩
theorem put_float_is {m M B : Nat} {f mode t b : Int} (k : Nat) (hk : mode = (k : Int)) (hM : 1 ≤ M) (d1 : dictI [(32, 23), (64, 52)] (m_width_of f) = (m : Int)) (d2 : dictI [(32, 149), (64, 1074)] (m_width_of f) = (M : Int) + (m : Int) - 1)
    (d3 : m_greatest_raw f = (My.greatest m M : Int)) (d4 : m_least_raw f = ((2 ^ (B - 1) + My.greatest m M : Nat) : Int)) (d5 : m_sign_bit f = ((2 ^ (B - 1) : Nat) : Int)) (hb : 0 < b) :
    m_put_float t b f mode = (((My.putF m M B k ((t : Rat) / b)).2 : Int), ((My.putF m M B k ((t : Rat) / b)).1 : Int)) := by
  subst hk
  by_cases t0 : t = 0
  · subst t0
    have z : (((0 : Int) : Rat) / b) = 0 := (My.qeq0 hb).mpr rfl
    unfold m_put_float
    rw [if_pos rfl, z, My.putF_zero]
    rfl
  obtain ⟨h1, h2⟩ := lead_is hb t0
  generalize hl : m_leading_place t b = l at *
  obtain ⟨e, he⟩ : ∃ e : Int, e = max l (1 - (M : Int)) := ⟨_, rfl⟩
  have hP : maxI (l - (m : Int)) (-((M : Int) + (m : Int) - 1)) = e - (m : Int) := by
    unfold maxI
    split <;> omega
  obtain ⟨r1, r2, r3, r4⟩ := round_is (t := t) (place := e - (m : Int)) hb k
  rw [My.putF_int hM hb t0 h1 h2 he rfl]
  unfold m_put_float
  rw [if_neg t0, hl, d1, d2, hP, d3]
  have hR : e - (m : Int) = -((M : Int) + (m : Int) - 1) ∨ 1 ≤ m_rounded (m_quarters t b (e - (m : Int))) (k : Int) (decide (t < 0)) := by
    by_cases c : l ≤ 1 - (M : Int)
    · left; omega
    · right
      have el : e = l := by omega
      refine Int.le_trans ?_ r3
      have hD : 0 < b * 2 ^ (e - (m : Int)).toNat := Int.mul_pos hb (My.pow2_pos _)
      refine Int.le_ediv_of_mul_le hD ?_
      rw [Int.one_mul, el]
      -- b 2^(l - m) is no more than |t| 2^-(l - m), as b 2^l is no more than |t| 2^-l
      by_cases c2 : 0 ≤ l - (m : Int)
      · have : (2 : Int) ^ (l - (m : Int)).toNat ≤ 2 ^ l.toNat := by
          have e2 : l.toNat = (l - (m : Int)).toNat + m := by omega
          rw [e2, Int.pow_add]
          have := My.pow2_pos m
          have := My.pow2_pos (l - (m : Int)).toNat
          exact le_mul_one (by omega) (by omega)
        have h3 := Int.mul_le_mul_of_nonneg_left this (Int.le_of_lt hb)
        rw [show (-(l - (m : Int))).toNat = 0 by omega]
        rw [show (-l).toNat = 0 by omega] at h1
        omega
      · rw [show (l - (m : Int)).toNat = 0 by omega, Int.pow_zero, Int.mul_one]
        have h3 : b ≤ b * 2 ^ l.toNat := le_mul_one (by omega) (by have := My.pow2_pos l.toNat; omega)
        have h4 : (2 : Int) ^ (-l).toNat ≤ 2 ^ (-(l - (m : Int))).toNat := by
          rw [show (-(l - (m : Int))).toNat = (-l).toNat + ((-(l - (m : Int))).toNat - (-l).toNat) by omega, Int.pow_add]
          have := My.pow2_pos (-l).toNat
          have := My.pow2_pos ((-(l - (m : Int))).toNat - (-l).toNat)
          exact le_mul_one (by omega) (by omega)
        have h5 := Int.mul_le_mul_of_nonneg_left h4 (show (0 : Int) ≤ (t.natAbs : Int) by omega)
        omega
  rw [r1]
  have i1 : (((if (t * 2 ^ (-(e - (m : Int))).toNat) % (b * 2 ^ (e - (m : Int)).toNat) = 0 then 0 else 1 : Nat)) : Int) = (if m_is_whole (m_quarters t b (e - (m : Int))) = true then 0 else 1) := by
    by_cases c : (t * 2 ^ (-(e - (m : Int))).toNat) % (b * 2 ^ (e - (m : Int)).toNat) = 0
    · rw [if_pos c, if_pos (r2.mpr c)]; rfl
    · rw [if_neg c, if_neg (fun z => c (r2.mp z))]; rfl
  have hR0 : 0 ≤ m_rounded (m_quarters t b (e - (m : Int))) (k : Int) (decide (t < 0)) := by omega
  generalize m_rounded (m_quarters t b (e - (m : Int))) (k : Int) (decide (t < 0)) = R at *
  have na : (if t < 0 then -R else R).natAbs = R.toNat := by split <;> omega
  have x1 : (e - (m : Int) - -((M : Int) + (m : Int) - 1)) * 2 ^ ((m : Int)).toNat = (((e + (M : Int) - 1).toNat * 2 ^ m : Nat) : Int) := by
    rw [Int.toNat_natCast, Int.natCast_mul, Int.natCast_pow, show (((e + (M : Int) - 1).toNat : Nat) : Int) = e - (m : Int) - -((M : Int) + (m : Int) - 1) by omega]
    rfl
  rw [x1, na]
  generalize hY : (e + (M : Int) - 1).toNat * 2 ^ m = Y at *
  have hz : e - (m : Int) = -((M : Int) + (m : Int) - 1) → Y = 0 := by
    intro z
    rw [← hY, show (e + (M : Int) - 1).toNat = 0 by omega, Nat.zero_mul]
  have d3' := d3
  by_cases c1 : R.toNat + Y ≤ My.greatest m M
  · rw [if_neg (by omega), if_pos c1]
    unfold My.rawOf
    rw [hY]
    dsimp only
    rw [i1]
    by_cases c2 : t < 0
    · rw [if_pos c2, if_pos c2]
      by_cases c3 : 0 < R + (Y : Int)
      · have hRp : 0 < R := by
          rcases hR with h | h
          · have := hz h; omega
          · omega
        rw [if_pos c3, decide_eq_true (show -R < 0 by omega), if_pos rfl, d5]
        by_cases c4 : m_is_whole (m_quarters t b (e - (m : Int))) = true
        · rw [if_pos c4, if_pos c4]; refine Prod.ext rfl ?_; dsimp only; omega
        · rw [if_neg c4, if_neg c4]; refine Prod.ext rfl ?_; dsimp only; omega
      · rw [if_neg c3, decide_eq_false (show ¬ -R < 0 by omega), if_neg (show ¬ false = true by decide)]
        by_cases c4 : m_is_whole (m_quarters t b (e - (m : Int))) = true
        · rw [if_pos c4, if_pos c4]; refine Prod.ext rfl ?_; dsimp only; omega
        · rw [if_neg c4, if_neg c4]; refine Prod.ext rfl ?_; dsimp only; omega
    · rw [if_neg c2, if_neg c2, decide_eq_false (show ¬ R < 0 by omega), if_neg (show ¬ false = true by decide)]
      by_cases c4 : m_is_whole (m_quarters t b (e - (m : Int))) = true
      · rw [if_pos c4, if_pos c4]; refine Prod.ext rfl ?_; dsimp only; omega
      · rw [if_neg c4, if_neg c4]; refine Prod.ext rfl ?_; dsimp only; omega
  · rw [if_pos (by omega), if_neg c1]
    have hRp : 0 < R := by
      rcases hR with h | h
      · have := hz h; omega
      · omega
    unfold m_end_raw
    by_cases c2 : t < 0
    · rw [if_pos c2, if_pos (show -R < 0 by omega), decide_eq_true c2, if_pos rfl, d4]
      rfl
    · rw [if_neg c2, if_neg (show ¬ R < 0 by omega), decide_eq_false c2, if_neg (by decide), d3]
      refine Prod.ext rfl ?_
      dsimp only
      omega
theorem put_is {f how t b : Int} {g : Fmt} (i : IsFmt f g) (hb : 0 < b) (h0 : 0 ≤ how) (h1 : how < 16) :
    m_put_ratio t b f how = (((Sh.put g ⟨(how % 8).toNat, (how / 8).toNat⟩ ((t : Rat) / b)).2 : Int), ((Sh.put g ⟨(how % 8).toNat, (how / 8).toNat⟩ ((t : Rat) / b)).1 : Int)) := by
  have hm : m_mode_of how = (((how % 8).toNat : Nat) : Int) := by unfold m_mode_of; omega
  unfold m_put_ratio
  cases i with
  | truth =>
    rw [show m_kind_of 2048 = 0 by decide, if_pos rfl]
    show _ = (((0 : Nat) : Int), (((if (t : Rat) / b = 0 then 0 else 1 : Nat)) : Int))
    by_cases c : t = 0
    · rw [if_pos c, if_pos ((My.qeq0 hb).mpr c)]; rfl
    · rw [if_neg c, if_neg (fun z => c ((My.qeq0 hb).mp z))]; rfl
  | f32 =>
    rw [show m_kind_of 204800 = 3 by decide, if_neg (by decide), if_pos rfl, My.put32]
    exact put_float_is (m := 23) (M := 127) (B := 32) _ hm (by decide) (by decide) (by decide) (by decide) (by decide) (by decide) hb
  | f64 =>
    rw [show m_kind_of 212992 = 3 by decide, if_neg (by decide), if_pos rfl, My.put64]
    exact put_float_is (m := 52) (M := 1023) (B := 64) _ hm (by decide) (by decide) (by decide) (by decide) (by decide) (by decide) hb
  | @fix _ w p s hw hp hk =>
    obtain ⟨ew, ep, ek⟩ := fix_parts hw hp hk
    rw [ek, if_neg (by cases s <;> decide), if_neg (by cases s <;> decide), My.put_fix w p s _ hb]
    exact put_fixed_is hw hp hk hb h0 h1
noncomputable def Val (p : Int × Int) (q : Rat) : Prop := 0 < p.2 ∧ (p.1 : Rat) / (p.2 : Rat) = q
noncomputable def SzR (n : Nat) (p : Int × Int) : Prop := Sz n p.1 ∧ Sz n p.2
theorem common_pos {b d : Int} (hb : 0 < b) : 0 < m_common_divisor b d := by
  unfold m_common_divisor
  have : 0 < Int.gcd b d := Int.gcd_pos_of_ne_zero_left d (by omega)
  omega
theorem plus_parts {b d : Int} (hb : 0 < b) (hd : 0 < d) : 0 < b / m_common_divisor b d * d ∧ b * ((b / m_common_divisor b d * d) / b) = b / m_common_divisor b d * d ∧ d * ((b / m_common_divisor b d * d) / d) = b / m_common_divisor b d * d := by
  have g0 := common_pos (d := d) hb
  have g1 : m_common_divisor b d ∣ b := Int.gcd_dvd_left ..
  have g2 : m_common_divisor b d ∣ d := Int.gcd_dvd_right ..
  obtain ⟨b', eb⟩ := g1
  obtain ⟨d', ed⟩ := g2
  generalize m_common_divisor b d = g at *
  have b0 : 0 < b' := by
    rw [eb] at hb
    exact Int.pos_of_mul_pos_right hb g0
  have e1 : b / g = b' := by rw [eb, Int.mul_ediv_cancel_left _ (by omega)]
  rw [e1]
  refine ⟨Int.mul_pos b0 hd, Int.mul_ediv_cancel' ?_, Int.mul_ediv_cancel' ⟨b', Int.mul_comm ..⟩⟩
  exact ⟨d', by rw [eb, ed, ← Int.mul_assoc, Int.mul_comm b' g]⟩
theorem plus_val {x y : Int × Int} {p q : Rat} (hx : Val x p) (hy : Val y q) : Val (m_plus x.1 x.2 y.1 y.2) (p + q) := by
  obtain ⟨b0, ex⟩ := hx
  obtain ⟨d0, ey⟩ := hy
  obtain ⟨h0, h1, h2⟩ := plus_parts b0 d0
  unfold m_plus Val
  dsimp only
  refine ⟨h0, ?_⟩
  rw [← ex, ← ey, My.qadd b0 d0, My.qeq h0 (Int.mul_pos b0 d0)]
  generalize x.2 / m_common_divisor x.2 y.2 * y.2 = N at *
  generalize N / x.2 = u at *
  generalize N / y.2 = v at *
  have e1 : x.1 * u * (x.2 * y.2) = x.1 * y.2 * N := by rw [← h1]; ac_rfl
  have e2 : y.1 * v * (x.2 * y.2) = y.1 * x.2 * N := by rw [← h2]; ac_rfl
  rw [Int.add_mul, Int.add_mul, e1, e2]
theorem minus_val {x y : Int × Int} {p q : Rat} (hx : Val x p) (hy : Val y q) : Val (m_minus x.1 x.2 y.1 y.2) (p - q) := by
  unfold m_minus
  rw [Rat.sub_eq_add_neg]
  refine plus_val (y := (-y.1, y.2)) hx ⟨hy.1, ?_⟩
  rw [← hy.2, My.qneg]
theorem times_val {x y : Int × Int} {p q : Rat} (hx : Val x p) (hy : Val y q) : Val (m_times x.1 x.2 y.1 y.2) (p * q) := by
  refine ⟨Int.mul_pos hx.1 hy.1, ?_⟩
  rw [← hx.2, ← hy.2, My.qmul hx.1 hy.1]
  rfl
theorem over_val {x y : Int × Int} {p q : Rat} (hx : Val x p) (hy : Val y q) (h0 : y.1 ≠ 0) : Val (m_over x.1 x.2 y.1 y.2) (p / q) := by
  unfold m_over
  by_cases c : y.1 < 0
  · rw [if_pos c]
    refine ⟨Int.mul_pos hx.1 (show 0 < -y.1 by omega), ?_⟩
    rw [← hx.2, ← hy.2, My.qdiv hx.1 hy.1 h0]
    dsimp only
    rw [Int.neg_mul, Int.mul_neg, My.qnegneg]
  · rw [if_neg c]
    refine ⟨Int.mul_pos hx.1 (show 0 < y.1 by omega), ?_⟩
    rw [← hx.2, ← hy.2, My.qdiv hx.1 hy.1 h0]
theorem common_le {b d : Int} (hb : 0 < b) : (m_common_divisor b d).natAbs ≤ b.natAbs := by
  unfold m_common_divisor
  rw [Int.natAbs_natCast]
  exact Nat.le_of_dvd (by omega) (Nat.gcd_dvd_left b.natAbs d.natAbs)
theorem ediv_le_abs {a b : Int} (hb : 0 < b) (ha : 0 ≤ a) : (a / b).natAbs ≤ a.natAbs := by
  have h1 : a / b ≤ a := Int.ediv_le_self b ha
  have h2 : 0 ≤ a / b := Int.ediv_nonneg ha (by omega)
  omega
theorem plus_sz {m n : Nat} {x y : Int × Int} (b0 : 0 < x.2) (d0 : 0 < y.2) (hx : SzR m x) (hy : SzR n y) : SzR (m + n + 1) (m_plus x.1 x.2 y.1 y.2) := by
  obtain ⟨h0, h1, h2⟩ := plus_parts b0 d0
  have g0 := common_pos (d := y.2) b0
  have q : Sz m (x.2 / m_common_divisor x.2 y.2) := hx.2.of_le (ediv_le_abs g0 (by omega))
  have hN : Sz (m + n) (x.2 / m_common_divisor x.2 y.2 * y.2) := q.mul hy.2
  -- N / b is no more than d, N / d no more than b
  have hv : (x.2 / m_common_divisor x.2 y.2 * y.2) / y.2 = x.2 / m_common_divisor x.2 y.2 := Int.mul_ediv_cancel _ (by omega)
  have hu : ((x.2 / m_common_divisor x.2 y.2 * y.2) / x.2).natAbs ≤ y.2.natAbs := by
    have k1 : x.2 / m_common_divisor x.2 y.2 ≤ x.2 := Int.ediv_le_self _ (by omega)
    have k2 : x.2 / m_common_divisor x.2 y.2 * y.2 ≤ x.2 * y.2 := Int.mul_le_mul_of_nonneg_right k1 (by omega)
    have k3 : (x.2 / m_common_divisor x.2 y.2 * y.2) / x.2 ≤ y.2 := by
      have := Int.ediv_le_ediv b0 k2
      rwa [Int.mul_ediv_cancel_left _ (by omega)] at this
    have k4 : 0 ≤ (x.2 / m_common_divisor x.2 y.2 * y.2) / x.2 := Int.ediv_nonneg (by omega) (by omega)
    omega
  unfold m_plus SzR
  dsimp only
  rw [hv]
  refine ⟨?_, hN.mono (by omega)⟩
  exact ((hx.1.mul (hy.2.of_le hu)).add (hy.1.mul q)).mono (by omega)
theorem minus_sz {m n : Nat} {x y : Int × Int} (b0 : 0 < x.2) (d0 : 0 < y.2) (hx : SzR m x) (hy : SzR n y) : SzR (m + n + 1) (m_minus x.1 x.2 y.1 y.2) :=
  plus_sz (y := (-y.1, y.2)) b0 d0 hx ⟨hy.1.neg, hy.2⟩
theorem times_sz {m n : Nat} {x y : Int × Int} (hx : SzR m x) (hy : SzR n y) : SzR (m + n) (m_times x.1 x.2 y.1 y.2) := ⟨hx.1.mul hy.1, hx.2.mul hy.2⟩
theorem over_sz {m n : Nat} {x y : Int × Int} (hx : SzR m x) (hy : SzR n y) : SzR (m + n) (m_over x.1 x.2 y.1 y.2) := by
  unfold m_over
  split
  · exact ⟨hx.1.neg.mul hy.2, hx.2.mul hy.1.neg⟩
  · exact ⟨hx.1.mul hy.2, hx.2.mul hy.1⟩
theorem worth_val {c r : Int} (h : m_is_raw c r = true) : ∃ q, Val (m_worth_of c r) q ∧ SzR 1075 (m_worth_of c r) ∧ ShNumSeed.worthOf c r = some q := by
  obtain ⟨n, hn, hb, hs, e⟩ := worth_is h
  refine ⟨_, ⟨worth_pos h, rfl⟩, ⟨hs.mono (by decide), ?_⟩, e⟩
  rw [hb]; exact Sz.two n (by omega)
theorem put_val {f how : Int} {g : Fmt} {x : Int × Int} {q : Rat} (i : IsFmt f g) (hx : Val x q) (h0 : 0 ≤ how) (h1 : how < 16) :
    m_put_ratio x.1 x.2 f how = (((Sh.put g ⟨(how % 8).toNat, (how / 8).toNat⟩ q).2 : Int), ((Sh.put g ⟨(how % 8).toNat, (how / 8).toNat⟩ q).1 : Int)) := by
  rw [put_is i hx.1 h0 h1, hx.2]
theorem val_zero {x : Int × Int} {q : Rat} (hx : Val x q) : q = 0 ↔ x.1 = 0 := by rw [← hx.2, My.qeq0 hx.1]
noncomputable def RB (t b : Int) : Prop := 0 < b ∧ Sz 8000 b ∧ Sz 8000 t
theorem point_lt (c : Int) : m_point_of c < 256 := by unfold m_point_of; omega
theorem point_nn (c : Int) : 0 ≤ m_point_of c := by unfold m_point_of; omega
theorem sign_pos (c : Int) : 0 < m_sign_bit c := by unfold m_sign_bit; rw [Int.one_mul]; exact My.pow2_pos _
theorem one_pos (n : Nat) : (0 : Int) < 1 * 2 ^ n := by rw [Int.one_mul]; exact My.pow2_pos n
theorem raw_fmt {c r : Int} (h : m_is_raw c r = true) : m_is_format c = true := by
  unfold m_is_raw at h
  split at h
  · assumption
  · cases h
theorem may_fmt {f how : Int} (h : m_may_put f how = true) : m_is_format f = true := by
  unfold m_may_put at h
  split at h
  · assumption
  · cases h
theorem fbits {c : Int} (W : m_width_of c = 32 ∨ m_width_of c = 64) : 0 ≤ dictI [(32, 23), (64, 52)] (m_width_of c) ∧ dictI [(32, 23), (64, 52)] (m_width_of c) ≤ 52 := by
  rcases W with h | h <;> rw [h] <;> decide
theorem lplaces {c : Int} (W : m_width_of c = 32 ∨ m_width_of c = 64) : 0 ≤ dictI [(32, 149), (64, 1074)] (m_width_of c) ∧ dictI [(32, 149), (64, 1074)] (m_width_of c) ≤ 1074 := by
  rcases W with h | h <;> rw [h] <;> decide
theorem expo_lt {c : Int} (r : Int) (W : m_width_of c = 32 ∨ m_width_of c = 64) : (r % m_sign_bit c) / 2 ^ (dictI [(32, 23), (64, 52)] (m_width_of c)).toNat < 2048 := by
  unfold m_sign_bit
  rcases W with h | h
  · rw [h, show ((1 : Int) * 2 ^ (32 - 1 : Int).toNat) = 2147483648 from rfl, show ((2 : Int) ^ (dictI [(32, 23), (64, 52)] 32).toNat) = 8388608 from rfl]
    omega
  · rw [h, show ((1 : Int) * 2 ^ (64 - 1 : Int).toNat) = 9223372036854775808 from rfl, show ((2 : Int) ^ (dictI [(32, 23), (64, 52)] 64).toNat) = 4503599627370496 from rfl]
    omega
theorem frac_sz {c : Int} (z : Int) (W : m_width_of c = 32 ∨ m_width_of c = 64) : Sz 53 (z % (1 * 2 ^ (dictI [(32, 23), (64, 52)] (m_width_of c)).toNat)) ∧ Sz 54 (z % (1 * 2 ^ (dictI [(32, 23), (64, 52)] (m_width_of c)).toNat) + 1 * 2 ^ (dictI [(32, 23), (64, 52)] (m_width_of c)).toNat) := by
  have fb := fbits W
  have p := one_pos (dictI [(32, 23), (64, 52)] (m_width_of c)).toNat
  have h1 := Int.emod_nonneg z (show (1 * 2 ^ (dictI [(32, 23), (64, 52)] (m_width_of c)).toNat : Int) ≠ 0 by omega)
  have h2 := Int.emod_lt_of_pos z p
  have s : Sz 53 (1 * 2 ^ (dictI [(32, 23), (64, 52)] (m_width_of c)).toNat) := by
    rw [Int.one_mul]; exact Sz.two _ (by omega)
  have s1 := s.of_le (i := z % (1 * 2 ^ (dictI [(32, 23), (64, 52)] (m_width_of c)).toNat)) (by omega)
  exact ⟨s1, (s1.add s).mono (by decide)⟩
theorem steps_sz {t b place : Int} (h : RB t b) (p1 : -20000 ≤ place) (p2 : place ≤ 20000) : Sz 28000 (m_in_steps t b place).1 ∧ Sz 28000 (m_in_steps t b place).2 ∧ 0 < (m_in_steps t b place).2 ∧ 0 ≤ (m_in_steps t b place).1 := by
  rw [in_steps_eq]
  have a : Sz 8000 ((t.natAbs : Int)) := by have := h.2.2; unfold Sz at *; rw [Int.natAbs_natCast]; exact this
  exact ⟨(a.shl (n := 20000) (by omega)).mono (by decide), (h.2.1.shl (n := 20000) (by omega)).mono (by decide), Int.mul_pos h.1 (My.pow2_pos _), Int.mul_nonneg (by omega) (Int.le_of_lt (My.pow2_pos _))⟩
theorem halves_sz {t b place : Int} (h : RB t b) (p1 : -20000 ≤ place) (p2 : place ≤ 20000) : Sz 28002 (2 * (m_in_steps t b place).1 / (m_in_steps t b place).2) := by
  obtain ⟨s1, s2, s3, s4⟩ := steps_sz h p1 p2
  exact (Sz.mul (m := 2) (by decide) s1).of_le (ediv_le_abs s3 (by omega)) |>.mono (by decide)
theorem lead_bounds {t b : Int} (h : RB t b) : -8001 ≤ m_leading_place t b ∧ m_leading_place t b ≤ 8000 := by
  have h1 := h.2.2.abs.bitsI
  have h2 := h.2.1.bitsI
  unfold m_leading_place
  split <;> omega
theorem lead_pre {t b : Int} (h : RB t b) : -20000 ≤ bitsI (absI t) - bitsI b ∧ bitsI (absI t) - bitsI b ≤ 20000 := by
  have h1 := h.2.2.abs.bitsI
  have h2 := h.2.1.bitsI
  omega
theorem float_place {t b F L : Int} (h : RB t b) (t0 : ¬ t = 0) (f0 : 0 ≤ F) (f1 : F ≤ 52) (l0 : 0 ≤ L) (l1 : L ≤ 1074) :
    -20000 ≤ maxI (m_leading_place t b - F) (-L) ∧ maxI (m_leading_place t b - F) (-L) ≤ 20000 ∧ Sz 9000 (b * 2 ^ (maxI (m_leading_place t b - F) (-L)).toNat) ∧ -L ≤ maxI (m_leading_place t b - F) (-L) := by
  have hb := lead_bounds h
  have e : maxI (m_leading_place t b - F) (-L) = max (m_leading_place t b - F) (-L) := by
    unfold maxI; split <;> omega
  rw [e]
  refine ⟨by omega, by omega, ?_, by omega⟩
  obtain ⟨h1, h2⟩ := lead_is h.1 t0
  generalize m_leading_place t b = l at *
  by_cases c : 0 ≤ max (l - F) (-L)
  · have c2 : max (l - F) (-L) ≤ l ∨ max (l - F) (-L) = 0 := by omega
    rcases c2 with c2 | c2
    · have l0 : 0 ≤ l := by omega
      have p := My.pow2_pos (max (l - F) (-L)).toNat
      have q : (2 : Int) ^ (max (l - F) (-L)).toNat ≤ 2 ^ l.toNat := by
        rw [show l.toNat = (max (l - F) (-L)).toNat + (l.toNat - (max (l - F) (-L)).toNat) by omega, Int.pow_add]
        exact le_mul_one (by omega) (by have := My.pow2_pos (l.toNat - (max (l - F) (-L)).toNat); omega)
      have r := Int.mul_le_mul_of_nonneg_left q (Int.le_of_lt h.1)
      have s := Int.mul_pos h.1 p
      rw [show (-l).toNat = 0 by omega] at h1
      refine Sz.mono (h.2.2.of_le (i := b * 2 ^ (max (l - F) (-L)).toNat) ?_) (by decide)
      omega
    · rw [c2]
      exact Sz.mono (m := 8000) (by have := h.2.1; unfold Sz at *; simpa using this) (by decide)
  · rw [show (max (l - F) (-L)).toNat = 0 by omega]
    exact Sz.mono (m := 8000) (by have := h.2.1; unfold Sz at *; simpa using this) (by decide)
theorem fix_place {b : Int} (c : Int) (h : Sz 8000 b) : Sz 9000 (b * 2 ^ (-(m_point_of c)).toNat) := by
  have := point_nn c
  rw [show (-(m_point_of c)).toNat = 0 by omega]
  exact Sz.mono (m := 8000) (by unfold Sz at *; simpa using h) (by decide)
theorem gcd_step {x y : Int} (hx : 0 ≤ x) (hy : 0 < y) : Int.gcd y (x % y) = Int.gcd x y := by
  obtain ⟨n, rfl⟩ : ∃ n : Nat, x = (n : Int) := ⟨x.toNat, by omega⟩
  obtain ⟨k, rfl⟩ : ∃ k : Nat, y = (k : Int) := ⟨y.toNat, by omega⟩
  rw [← Int.natCast_emod]
  show Nat.gcd k (n % k) = Nat.gcd n k
  rw [Nat.gcd_comm n k, Nat.gcd_rec k n, Nat.gcd_comm]
theorem rb_of {n : Nat} {x : Int × Int} (h0 : 0 < x.2) (h : SzR n x) (l : n ≤ 8000) : RB x.1 x.2 := ⟨h0, h.2.mono l, h.1.mono l⟩
theorem take_snoc2 {α : Type} : ∀ {l : List α} {i : Nat} {x : α}, l[i]? = some x → l.take (i + 1) = l.take i ++ [x]
  | [], i, x, h => by simp at h
  | a :: l, 0, x, h => by
    have e : a = x := Option.some.inj h
    subst e
    rfl
  | a :: l, i + 1, x, h => by
    have ih := take_snoc2 (l := l) (i := i) (x := x) (by simpa using h)
    rw [List.take_succ_cons, List.take_succ_cons, ih]
    rfl

theorem worth_sz {c r : Int} (h : m_is_raw c r = true) : 0 < (m_worth_of c r).2 ∧ SzR 1075 ((m_worth_of c r).1, (m_worth_of c r).2) := by
  obtain ⟨q, v, s, _⟩ := worth_val h
  exact ⟨v.1, s⟩
noncomputable def qv (p : Int × Int) : Rat := (p.1 : Rat) / (p.2 : Rat)
theorem rising_le : ∀ {l : List Rat} {x a : Rat} {j : Nat}, Sh.rising (x :: l) = true → (x :: l)[j]? = some a → x ≤ a
  | _, x, a, 0, _, h => by
    have e : x = a := Option.some.inj h
    rw [e]; exact Rat.le_refl
  | [], x, a, j + 1, _, h => by simp at h
  | y :: l, x, a, j + 1, hr, h => by
    have hr' : (decide (x < y) && Sh.rising (y :: l)) = true := hr
    rw [Bool.and_eq_true, decide_eq_true_eq] at hr'
    have ih := rising_le (l := l) (x := y) (j := j) hr'.2 (by simpa using h)
    exact Rat.le_trans (Rat.le_of_lt hr'.1) ih
theorem rising_cons {x y : Rat} {l : List Rat} (h : Sh.rising (x :: y :: l) = true) : x < y ∧ Sh.rising (y :: l) = true := by
  have hr' : (decide (x < y) && Sh.rising (y :: l)) = true := h
  rwa [Bool.and_eq_true, decide_eq_true_eq] at hr'
theorem tab_first {a : Rat × Rat} {l : List (Rat × Rat)} {q : Rat} (h : q ≤ a.1) : Sh.tableAt (a :: l) q = a.2 := by
  cases l with
  | nil => rfl
  | cons b r => unfold Sh.tableAt; rw [if_pos h]
theorem tab_last : ∀ {l : List (Rat × Rat)} {z : Rat × Rat} {q : Rat} {j : Nat}, Sh.rising (l.map Prod.fst) = true → l[j]? = some z → j + 1 = l.length → z.1 ≤ q → Sh.tableAt l q = z.2
  | [], _, _, _, _, h, _, _ => by simp at h
  | [a], z, q, j, _, h, hj, _ => by
    have : j = 0 := by simp only [List.length_cons, List.length_nil] at hj; omega
    subst this
    have e : a = z := Option.some.inj h
    rw [e]; rfl
  | a :: b :: r, z, q, j, hr, h, hj, hz => by
    obtain ⟨i, rfl⟩ : ∃ i, j = i + 1 := ⟨j - 1, by simp only [List.length_cons] at hj; omega⟩
    have h' : (b :: r)[i]? = some z := by simpa using h
    obtain ⟨h1, h2⟩ := rising_cons (x := a.1) (y := b.1) (l := r.map Prod.fst) hr
    have h3 : b.1 ≤ z.1 := rising_le (l := r.map Prod.fst) (j := i) h2 (by
      have : ((b :: r).map Prod.fst)[i]? = some z.1 := by rw [List.getElem?_map, h']; rfl
      exact this)
    have h4 : b.1 ≤ q := Rat.le_trans h3 hz
    unfold Sh.tableAt
    rw [if_neg (fun z => Rat.not_le.mpr h1 (Rat.le_trans h4 z)), if_neg (Rat.not_lt.mpr h4)]
    exact tab_last (l := b :: r) (j := i) h2 h' (by simp only [List.length_cons] at hj ⊢; omega) hz
theorem tab_line : ∀ {l : List (Rat × Rat)} {a b : Rat × Rat} {q : Rat} {j : Nat}, Sh.rising (l.map Prod.fst) = true → l[j]? = some a → l[j + 1]? = some b → a.1 ≤ q → q < b.1 → Sh.tableAt l q = a.2 + (q - a.1) / (b.1 - a.1) * (b.2 - a.2)
  | [], _, _, _, _, _, h, _, _, _ => by simp at h
  | [_], _, _, _, _, _, _, h, _, _ => by simp at h
  | c :: d :: r, a, b, q, 0, hr, ha, hb, h1, h2 => by
    have e1 : c = a := Option.some.inj ha
    have e2 : d = b := Option.some.inj hb
    subst e1 e2
    unfold Sh.tableAt
    by_cases e : q ≤ c.1
    · have : q = c.1 := Rat.le_antisymm e h1
      rw [if_pos e, this, Rat.sub_self, Rat.div_def, Rat.zero_mul, Rat.zero_mul, Rat.add_zero]
    · rw [if_neg e, if_pos h2]
      congr 1
      rw [Rat.div_def, Rat.div_def, Rat.mul_assoc, Rat.mul_assoc, Rat.mul_comm (d.2 - c.2)]
  | c :: d :: r, a, b, q, j + 1, hr, ha, hb, h1, h2 => by
    obtain ⟨g1, g2⟩ := rising_cons (x := c.1) (y := d.1) (l := r.map Prod.fst) hr
    have ha' : (d :: r)[j]? = some a := by simpa using ha
    have hb' : (d :: r)[j + 1]? = some b := by simpa using hb
    have h3 : d.1 ≤ a.1 := rising_le (l := r.map Prod.fst) (j := j) g2 (by
      have : ((d :: r).map Prod.fst)[j]? = some a.1 := by rw [List.getElem?_map, ha']; rfl
      exact this)
    have h4 : d.1 ≤ q := Rat.le_trans h3 h1
    unfold Sh.tableAt
    rw [if_neg (fun z => Rat.not_le.mpr g1 (Rat.le_trans h4 z)), if_neg (Rat.not_lt.mpr h4)]
    exact tab_line (l := d :: r) g2 ha' hb' h1 h2
noncomputable def GV (p : Int × Int) : Prop := 0 < p.2 ∧ SzR 1075 p
theorem GV.rb {p : Int × Int} (h : GV p) : RB p.1 p.2 := rb_of h.1 h.2 (by decide)
theorem GV.val {p : Int × Int} (h : GV p) : Val p (qv p) := ⟨h.1, rfl⟩
noncomputable def m_rise : List (Int × Int) → Bool
  | x :: y :: r => m_is_less x.1 x.2 y.1 y.2 && m_rise (y :: r)
  | _ => true
theorem rise_is : ∀ {l : List (Int × Int)}, (∀ p ∈ l, GV p) → m_rise l = Sh.rising (l.map qv)
  | [], _ => rfl
  | [_], _ => rfl
  | x :: y :: r, h => by
    have ih := rise_is (l := y :: r) (fun p hp => h p (List.mem_cons_of_mem _ hp))
    have hx := h x (List.mem_cons_self ..)
    have hy := h y (List.mem_cons_of_mem _ (List.mem_cons_self ..))
    show (m_is_less x.1 x.2 y.1 y.2 && m_rise (y :: r)) = (decide (qv x < qv y) && Sh.rising ((y :: r).map qv))
    rw [ih]
    congr 1
    have := less_iff (a := x.1) (c := y.1) hx.1 hy.1
    rw [Bool.eq_iff_iff, decide_eq_true_eq]
    exact this
theorem line_val {x a b ya yb : Int × Int} (hx : GV x) (ha : GV a) (hb : GV b) (hya : GV ya) (hyb : GV yb) (lt : qv a < qv b) :
    ∀ u v w z k : Int × Int, u = m_minus x.1 x.2 a.1 a.2 → v = m_minus b.1 b.2 a.1 a.2 → w = m_over u.1 u.2 v.1 v.2 → z = m_minus yb.1 yb.2 ya.1 ya.2 → k = m_times w.1 w.2 z.1 z.2 →
      RB u.1 u.2 ∧ RB v.1 v.2 ∧ RB w.1 w.2 ∧ RB z.1 z.2 ∧ RB k.1 k.2 ∧ RB (m_plus ya.1 ya.2 k.1 k.2).1 (m_plus ya.1 ya.2 k.1 k.2).2 ∧ Val (m_plus ya.1 ya.2 k.1 k.2) (qv ya + (qv x - qv a) / (qv b - qv a) * (qv yb - qv ya)) := by
  rintro u v w z k rfl rfl rfl rfl rfl
  have vu := minus_val hx.val ha.val
  have vv := minus_val hb.val ha.val
  have su := minus_sz hx.1 ha.1 hx.2 ha.2
  have sv := minus_sz hb.1 ha.1 hb.2 ha.2
  have v0 : (m_minus b.1 b.2 a.1 a.2).1 ≠ 0 := by
    intro e
    have := (val_zero vv).mpr e
    have h2 : qv b = qv a := by
      have h3 : qv b - qv a + qv a = 0 + qv a := by rw [this]
      rwa [Rat.sub_eq_add_neg, Rat.add_assoc, Rat.neg_add_cancel, Rat.add_zero, Rat.zero_add] at h3
    rw [h2] at lt
    exact Rat.lt_irrefl lt
  have vw := over_val vu vv v0
  have sw := over_sz su sv
  have vz := minus_val hyb.val hya.val
  have sz := minus_sz hyb.1 hya.1 hyb.2 hya.2
  have vk := times_val vw vz
  have sk := times_sz sw sz
  have vp := plus_val hya.val vk
  have sp := plus_sz hya.1 vk.1 hya.2 sk
  exact ⟨rb_of vu.1 su (by decide), rb_of vv.1 sv (by decide), rb_of vw.1 sw (by decide), rb_of vz.1 sz (by decide), rb_of vk.1 sk (by decide), rb_of vp.1 sp (by decide), vp⟩
noncomputable def m_are_good (c : Int) (l : List Int) : Bool := if m_is_format c = true then l.all (fun r => m_is_good c r) else false
noncomputable def m_may_look_up (xc : Int) (yc : Int) (xs : List Int) (ys : List Int) : Bool :=
  (if (¬ ((xs.length : Nat) : Int) = ((ys.length : Nat) : Int)) then false else (if ((1) ≤ ((xs.length : Nat) : Int)) then (if (((xs.length : Nat) : Int) ≤ (256)) then (if ((m_are_good xc xs) = true) then (m_are_good yc ys) else false) else false) else false))
theorem look_iff {xc yc : Int} {xs ys : List Int} : m_may_look_up xc yc xs ys = true ↔ xs.length = ys.length ∧ 1 ≤ xs.length ∧ xs.length ≤ 256 ∧ m_are_good xc xs = true ∧ m_are_good yc ys = true := by
  unfold m_may_look_up
  by_cases c1 : ((xs.length : Nat) : Int) = ((ys.length : Nat) : Int)
  · rw [if_neg (fun z => z c1)]
    by_cases c2 : (1 : Int) ≤ ((xs.length : Nat) : Int)
    · rw [if_pos c2]
      by_cases c3 : ((xs.length : Nat) : Int) ≤ 256
      · rw [if_pos c3]
        by_cases c4 : m_are_good xc xs = true
        · rw [if_pos c4]
          constructor
          · intro z; exact ⟨by omega, by omega, by omega, c4, z⟩
          · intro z; exact z.2.2.2.2
        · rw [if_neg c4]
          constructor
          · intro z; cases z
          · intro z; exact absurd z.2.2.2.1 c4
      · rw [if_neg c3]
        constructor
        · intro z; cases z
        · intro z; omega
    · rw [if_neg c2]
      constructor
      · intro z; cases z
      · intro z; omega
  · rw [if_pos c1]
    constructor
    · intro z; cases z
    · intro z; omega
theorem good_raws {c : Int} {l : List Int} (h : m_are_good c l = true) : ∀ r ∈ l, m_is_raw c r = true := by
  unfold m_are_good at h
  split at h
  · rename_i hf
    intro r hr
    unfold m_is_raw
    rw [if_pos hf]
    exact List.all_eq_true.mp h r hr
  · cases h
theorem worths_flat {c : Int} : ∀ {l : List Int}, (∀ r ∈ l, m_is_raw c r = true) → ShNumSeed.worths (l.flatMap fun (r : Int) => [c, r]) = some (l.map fun r => qv (m_worth_of c r))
  | [], _ => rfl
  | r :: l, h => by
    have ih := worths_flat (c := c) (l := l) (fun x hx => h x (List.mem_cons_of_mem _ hx))
    have h1 := h r (List.mem_cons_self ..)
    show ShNumSeed.worths (c :: r :: (l.flatMap fun (r : Int) => [c, r])) = _
    unfold ShNumSeed.worths
    rw [worth_some h1, ih]
    rfl
theorem worths_flat_none {c : Int} : ∀ {l : List Int}, l ≠ [] → ¬ m_are_good c l = true → ShNumSeed.worths (l.flatMap fun (r : Int) => [c, r]) = none
  | [], h, _ => absurd rfl h
  | r :: l, _, h => by
    show ShNumSeed.worths (c :: r :: (l.flatMap fun (r : Int) => [c, r])) = _
    unfold ShNumSeed.worths
    by_cases h1 : m_is_raw c r = true
    · rw [worth_some h1]
      have hf := raw_fmt h1
      have hg : m_is_good c r = true := by unfold m_is_raw at h1; rwa [if_pos hf] at h1
      cases l with
      | nil =>
        refine absurd ?_ h
        unfold m_are_good
        rw [if_pos hf]; simp [hg]
      | cons r2 l2 =>
        have ih := worths_flat_none (c := c) (l := r2 :: l2) (by simp) (fun z => h (by
          unfold m_are_good at z ⊢
          rw [if_pos hf] at z ⊢
          rw [List.all_cons, hg, z]; rfl))
        rw [ih]
    · rw [raw_none h1]
theorem table_eq (c r xc yc f how : Int) (xs ys : List Int) : PyWqadbl.table c r xc yc f how xs ys =
    (if m_is_raw c r = true ∧ m_may_put f how = true ∧ m_may_look_up xc yc xs ys = true then
      (if m_rise (xs.map (m_worth_of xc)) = true then
        (match ShNumSeed.result f how with
          | some g => [0, ((Sh.put g.1 g.2 (Sh.tableAt ((xs.map fun z => qv (m_worth_of xc z)).zip (ys.map fun z => qv (m_worth_of yc z))) (qv (m_worth_of c r)))).2 : Int), ((Sh.put g.1 g.2 (Sh.tableAt ((xs.map fun z => qv (m_worth_of xc z)).zip (ys.map fun z => qv (m_worth_of yc z))) (qv (m_worth_of c r)))).1 : Int)]
          | none => [-1])
        else [-9])
      else [-1]) := by
  show ShNumSeed.answer (.table c r xc yc f how xs ys) = _
  unfold ShNumSeed.answer ShNumSeed.into
  dsimp only
  have PT : ShNumSeed.POINTS = 256 := rfl
  rw [PT]
  by_cases c0 : xs.isEmpty = true ∨ 256 < xs.length ∨ xs.length ≠ ys.length
  · rw [if_pos c0, if_neg]
    · rfl
    · rintro ⟨_, _, h⟩
      obtain ⟨d1, d2, d3, _⟩ := look_iff.mp h
      rcases c0 with z | z | z
      · have : xs = [] := List.isEmpty_iff.mp z
        subst this
        simp at d2
      · omega
      · omega
  · rw [if_neg c0]
    have hne : xs ≠ [] := fun z => c0 (.inl (by rw [z]; rfl))
    have hl1 : 1 ≤ xs.length := by cases xs with | nil => exact absurd rfl hne | cons _ _ => simp
    have hyl : xs.length = ys.length := Decidable.byContradiction fun z => c0 (.inr (.inr z))
    have hxl : xs.length ≤ 256 := Nat.le_of_not_lt fun z => c0 (.inr (.inl z))
    have hyne : ys ≠ [] := by intro z; rw [z] at hyl; simp at hyl; exact hne hyl
    have look : m_may_look_up xc yc xs ys = true ↔ m_are_good xc xs = true ∧ m_are_good yc ys = true := by
      rw [look_iff]
      exact ⟨fun z => z.2.2.2, fun z => ⟨hyl, hl1, hxl, z⟩⟩
    by_cases g1 : m_are_good xc xs = true
    · by_cases g2 : m_are_good yc ys = true
      · have r1 := good_raws g1
        have r2 := good_raws g2
        rw [worths_flat r1, worths_flat r2]
        dsimp only
        by_cases h : m_is_raw c r = true
        · rw [worth_some h]
          by_cases p : m_may_put f how = true
          · rw [if_pos ⟨h, p, look.mpr ⟨g1, g2⟩⟩]
            obtain ⟨G, i, _, _, _, _, e⟩ := result_some p
            rw [e]
            dsimp only
            have hri : m_rise (xs.map (m_worth_of xc)) = Sh.rising (xs.map fun z => qv (m_worth_of xc z)) := by
              rw [rise_is (fun p hp => ?_), List.map_map]
              · rfl
              · obtain ⟨z, hz, rfl⟩ := List.mem_map.mp hp
                exact worth_sz (r1 z hz)
            rw [hri]
            by_cases ri : Sh.rising (xs.map fun z => qv (m_worth_of xc z)) = true
            · rw [if_pos ri, if_neg (by rw [ri]; decide)]; rfl
            · rw [if_neg ri, if_pos (by simpa using ri)]; rfl
          · rw [if_neg (fun z => p z.2.1), result_none p]; rfl
        · rw [if_neg (fun z => h z.1), raw_none h]
          cases ShNumSeed.result f how <;> rfl
      · rw [if_neg (fun z => g2 (look.mp z.2.2).2), worths_flat_none hyne g2]
        cases ShNumSeed.worths (xs.flatMap fun (r : Int) => [xc, r]) <;> rfl
    · rw [if_neg (fun z => g1 (look.mp z.2.2).1), worths_flat_none hne g1]
      rfl
noncomputable def rbOf : List (Int × Int) → List Bool
  | x :: y :: r => m_is_less x.1 x.2 y.1 y.2 :: rbOf (y :: r)
  | _ => []
theorem rise_all : ∀ l : List (Int × Int), m_rise l = (rbOf l).all id
  | [] => rfl
  | [_] => rfl
  | x :: y :: r => by
    show (m_is_less x.1 x.2 y.1 y.2 && m_rise (y :: r)) = (m_is_less x.1 x.2 y.1 y.2 && (rbOf (y :: r)).all id)
    rw [rise_all (y :: r)]
theorem rb_len : ∀ (l : List (Int × Int)), (rbOf l).length = l.length - 1
  | [] => rfl
  | [_] => rfl
  | x :: y :: r => by
    show (rbOf (y :: r)).length + 1 = _
    rw [rb_len (y :: r)]
    simp
theorem rb_at : ∀ (i : Nat) {l : List (Int × Int)} {x y : Int × Int}, l[i]? = some x → l[i + 1]? = some y → (rbOf l)[i]? = some (m_is_less x.1 x.2 y.1 y.2)
  | _, [], _, _, h, _ => by simp at h
  | _, [_], _, _, _, h => by simp at h
  | 0, a :: b :: l, x, y, h1, h2 => by
    have e1 : a = x := Option.some.inj h1
    have e2 : b = y := Option.some.inj h2
    subst e1 e2; rfl
  | i + 1, a :: b :: l, x, y, h1, h2 => by
    have := rb_at i (l := b :: l) (x := x) (y := y) (by simpa using h1) (by simpa using h2)
    exact this
theorem getp {l : List (Int × Int)} {i : Nat} (h : i < l.length) : ∃ z, l[i]? = some z := ⟨_, List.getElem?_eq_getElem h⟩
theorem zip_at {xs ys : List (Int × Int)} {i : Nat} {x y : Int × Int} (hx : xs[i]? = some x) (hy : ys[i]? = some y) : ((xs.map qv).zip (ys.map qv))[i]? = some (qv x, qv y) := by
  rw [List.getElem?_zip_eq_some]
  exact ⟨by rw [List.getElem?_map, hx]; rfl, by rw [List.getElem?_map, hy]; rfl⟩
theorem zip_fst {xs ys : List (Int × Int)} (h : xs.length = ys.length) : ((xs.map qv).zip (ys.map qv)).map Prod.fst = xs.map qv := by
  rw [List.map_fst_zip]
  rw [List.length_map, List.length_map]; omega
theorem zip_len {xs ys : List (Int × Int)} (h : xs.length = ys.length) : ((xs.map qv).zip (ys.map qv)).length = xs.length := by
  rw [List.length_zip, List.length_map, List.length_map, h, Nat.min_self]
theorem less_q {x y : Int × Int} (hx : GV x) (hy : GV y) : m_is_less x.1 x.2 y.1 y.2 = true ↔ qv x < qv y := less_iff hx.1 hy.1
structure TabOk (x : Int × Int) (xs ys : List (Int × Int)) : Prop where
  gx : GV x
  gxs : ∀ p ∈ xs, GV p
  gys : ∀ p ∈ ys, GV p
  len : xs.length = ys.length
  one : 1 ≤ xs.length
  most : xs.length ≤ 256
  up : m_rise xs = true
noncomputable def tabQ (x : Int × Int) (xs ys : List (Int × Int)) : Rat := Sh.tableAt ((xs.map qv).zip (ys.map qv)) (qv x)
theorem TabOk.rising {x : Int × Int} {xs ys : List (Int × Int)} (h : TabOk x xs ys) : Sh.rising (((xs.map qv).zip (ys.map qv)).map Prod.fst) = true := by
  rw [zip_fst h.len, ← rise_is h.gxs]; exact h.up
theorem TabOk.first {x x0 y0 : Int × Int} {xs ys : List (Int × Int)} (h : TabOk x xs ys) (hx : xs[0]? = some x0) (hy : ys[0]? = some y0) (c : ¬ m_is_less x0.1 x0.2 x.1 x.2 = true) : RB y0.1 y0.2 ∧ Val y0 (tabQ x xs ys) := by
  have g0 := h.gxs x0 (List.mem_of_getElem? hx)
  have gy := h.gys y0 (List.mem_of_getElem? hy)
  have le : qv x ≤ qv x0 := Rat.not_lt.mp fun z => c ((less_q g0 h.gx).mpr z)
  refine ⟨gy.rb, ?_⟩
  have e : tabQ x xs ys = qv y0 := by
    unfold tabQ
    have z := zip_at hx hy
    cases hz : (xs.map qv).zip (ys.map qv) with
    | nil => rw [hz] at z; simp at z
    | cons a l =>
      rw [hz] at z
      have e : a = (qv x0, qv y0) := Option.some.inj z
      rw [e]
      exact tab_first (a := (qv x0, qv y0)) le
  rw [e]; exact gy.val
theorem TabOk.last {x xn yn : Int × Int} {xs ys : List (Int × Int)} {n : Nat} (h : TabOk x xs ys) (hn : n + 1 = xs.length) (hx : xs[n]? = some xn) (hy : ys[n]? = some yn) (c : ¬ m_is_less x.1 x.2 xn.1 xn.2 = true) : RB yn.1 yn.2 ∧ Val yn (tabQ x xs ys) := by
  have g0 := h.gxs xn (List.mem_of_getElem? hx)
  have gy := h.gys yn (List.mem_of_getElem? hy)
  have le : qv xn ≤ qv x := Rat.not_lt.mp fun z => c ((less_q h.gx g0).mpr z)
  refine ⟨gy.rb, ?_⟩
  have e : tabQ x xs ys = qv yn := tab_last (j := n) (z := (qv xn, qv yn)) h.rising (zip_at hx hy) (by rw [zip_len h.len]; exact hn) le
  rw [e]; exact gy.val
theorem TabOk.line {x a b ya yb : Int × Int} {xs ys : List (Int × Int)} {j : Nat} (h : TabOk x xs ys) (ha : xs[j]? = some a) (hb : xs[j + 1]? = some b) (hya : ys[j]? = some ya) (hyb : ys[j + 1]? = some yb) (c1 : qv a ≤ qv x) (c2 : m_is_less x.1 x.2 b.1 b.2 = true) :
    tabQ x xs ys = qv ya + (qv x - qv a) / (qv b - qv a) * (qv yb - qv ya) ∧ qv a < qv b := by
  have gb := h.gxs b (List.mem_of_getElem? hb)
  have lt := (less_q h.gx gb).mp c2
  refine ⟨tab_line (j := j) (a := (qv a, qv ya)) (b := (qv b, qv yb)) h.rising (zip_at ha hya) (zip_at hb hyb) c1 lt, ?_⟩
  exact Rat.not_le.mp fun z => Rat.not_le.mpr lt (Rat.le_trans z c1)

end Py

namespace Py
open PySem PySem.Spec PyProof.Rows L2 TL
open PySem.W (Codec)
open Sh (Fmt How)
noncomputable def top (i : Nat) : Stmt := PySem.Challenge.pw_exactraws_s13_table.main.body.getD i (.Pass ⟨0, 0, 0, 0⟩)
noncomputable abbrev s_kind_of : Stmt := top 11
theorem sc_kind_of : FnScope ["c"] ["c"] (defScope s_kind_of) := ⟨rfl, rfl, rfl, by decide +kernel, rfl, by decide +kernel, by decide +kernel⟩
noncomputable abbrev s_width_of : Stmt := top 12
theorem sc_width_of : FnScope ["c"] ["c"] (defScope s_width_of) := ⟨rfl, rfl, rfl, by decide +kernel, rfl, by decide +kernel, by decide +kernel⟩
noncomputable abbrev s_point_of : Stmt := top 13
theorem sc_point_of : FnScope ["c"] ["c"] (defScope s_point_of) := ⟨rfl, rfl, rfl, by decide +kernel, rfl, by decide +kernel, by decide +kernel⟩
noncomputable abbrev s_is_format : Stmt := top 14
theorem sc_is_format : FnScope ["c"] ["c"] (defScope s_is_format) := ⟨rfl, rfl, rfl, by decide +kernel, rfl, by decide +kernel, by decide +kernel⟩
noncomputable abbrev s_sign_bit : Stmt := top 15
theorem sc_sign_bit : FnScope ["c"] ["c"] (defScope s_sign_bit) := ⟨rfl, rfl, rfl, by decide +kernel, rfl, by decide +kernel, by decide +kernel⟩
noncomputable abbrev s_infinity_raw : Stmt := top 16
theorem sc_infinity_raw : FnScope ["c"] ["c"] (defScope s_infinity_raw) := ⟨rfl, rfl, rfl, by decide +kernel, rfl, by decide +kernel, by decide +kernel⟩
noncomputable abbrev s_greatest_raw : Stmt := top 17
theorem sc_greatest_raw : FnScope ["c", "kind"] ["c"] (defScope s_greatest_raw) := ⟨rfl, rfl, rfl, by decide +kernel, rfl, by decide +kernel, by decide +kernel⟩
noncomputable abbrev s_least_raw : Stmt := top 18
theorem sc_least_raw : FnScope ["c", "kind"] ["c"] (defScope s_least_raw) := ⟨rfl, rfl, rfl, by decide +kernel, rfl, by decide +kernel, by decide +kernel⟩
noncomputable abbrev s_common_divisor : Stmt := top 21
theorem sc_common_divisor : FnScope ["a", "b", "rest"] ["a", "b"] (defScope s_common_divisor) := ⟨rfl, rfl, rfl, by decide +kernel, rfl, by decide +kernel, by decide +kernel⟩
noncomputable abbrev s_plus : Stmt := top 22
theorem sc_plus : FnScope ["x", "y", "common", "bottom"] ["x", "y"] (defScope s_plus) := ⟨rfl, rfl, rfl, by decide +kernel, rfl, by decide +kernel, by decide +kernel⟩
noncomputable abbrev s_minus : Stmt := top 23
theorem sc_minus : FnScope ["x", "y"] ["x", "y"] (defScope s_minus) := ⟨rfl, rfl, rfl, by decide +kernel, rfl, by decide +kernel, by decide +kernel⟩
noncomputable abbrev s_times : Stmt := top 24
theorem sc_times : FnScope ["x", "y"] ["x", "y"] (defScope s_times) := ⟨rfl, rfl, rfl, by decide +kernel, rfl, by decide +kernel, by decide +kernel⟩
noncomputable abbrev s_over : Stmt := top 25
theorem sc_over : FnScope ["x", "y"] ["x", "y"] (defScope s_over) := ⟨rfl, rfl, rfl, by decide +kernel, rfl, by decide +kernel, by decide +kernel⟩
noncomputable abbrev s_is_less : Stmt := top 26
theorem sc_is_less : FnScope ["x", "y"] ["x", "y"] (defScope s_is_less) := ⟨rfl, rfl, rfl, by decide +kernel, rfl, by decide +kernel, by decide +kernel⟩
noncomputable abbrev s_fits_width : Stmt := top 30
theorem sc_fits_width : FnScope ["c", "bits"] ["c", "bits"] (defScope s_fits_width) := ⟨rfl, rfl, rfl, by decide +kernel, rfl, by decide +kernel, by decide +kernel⟩
noncomputable abbrev s_is_raw : Stmt := top 31
theorem sc_is_raw : FnScope ["c", "r"] ["c", "r"] (defScope s_is_raw) := ⟨rfl, rfl, rfl, by decide +kernel, rfl, by decide +kernel, by decide +kernel⟩
noncomputable abbrev s_is_good : Stmt := top 32
theorem sc_is_good : FnScope ["c", "r", "kind"] ["c", "r"] (defScope s_is_good) := ⟨rfl, rfl, rfl, by decide +kernel, rfl, by decide +kernel, by decide +kernel⟩
noncomputable abbrev s_steps_of : Stmt := top 33
theorem sc_steps_of : FnScope ["c", "r"] ["c", "r"] (defScope s_steps_of) := ⟨rfl, rfl, rfl, by decide +kernel, rfl, by decide +kernel, by decide +kernel⟩
noncomputable abbrev s_float_worth : Stmt := top 34
theorem sc_float_worth : FnScope ["c", "r", "size", "fraction_bits", "steps", "place", "exponent"] ["c", "r"] (defScope s_float_worth) := ⟨rfl, rfl, rfl, by decide +kernel, rfl, by decide +kernel, by decide +kernel⟩
noncomputable abbrev s_worth_of : Stmt := top 35
theorem sc_worth_of : FnScope ["c", "r"] ["c", "r"] (defScope s_worth_of) := ⟨rfl, rfl, rfl, by decide +kernel, rfl, by decide +kernel, by decide +kernel⟩
noncomputable abbrev s_is_mode : Stmt := top 42
theorem sc_is_mode : FnScope ["mode"] ["mode"] (defScope s_is_mode) := ⟨rfl, rfl, rfl, by decide +kernel, rfl, by decide +kernel, by decide +kernel⟩
noncomputable abbrev s_in_steps : Stmt := top 43
theorem sc_in_steps : FnScope ["x", "place"] ["x", "place"] (defScope s_in_steps) := ⟨rfl, rfl, rfl, by decide +kernel, rfl, by decide +kernel, by decide +kernel⟩
noncomputable abbrev s_leading_place : Stmt := top 44
theorem sc_leading_place : FnScope ["x", "place", "steps"] ["x"] (defScope s_leading_place) := ⟨rfl, rfl, rfl, by decide +kernel, rfl, by decide +kernel, by decide +kernel⟩
noncomputable abbrev s_quarters : Stmt := top 45
theorem sc_quarters : FnScope ["x", "place", "steps", "halves"] ["x", "place"] (defScope s_quarters) := ⟨rfl, rfl, rfl, by decide +kernel, rfl, by decide +kernel, by decide +kernel⟩
noncomputable abbrev s_is_whole : Stmt := top 46
theorem sc_is_whole : FnScope ["size"] ["size"] (defScope s_is_whole) := ⟨rfl, rfl, rfl, by decide +kernel, rfl, by decide +kernel, by decide +kernel⟩
noncomputable abbrev s_goes_far : Stmt := top 47
theorem sc_goes_far : FnScope ["size", "mode", "below"] ["size", "mode", "below"] (defScope s_goes_far) := ⟨rfl, rfl, rfl, by decide +kernel, rfl, by decide +kernel, by decide +kernel⟩
noncomputable abbrev s_rounded : Stmt := top 48
theorem sc_rounded : FnScope ["size", "mode", "below"] ["size", "mode", "below"] (defScope s_rounded) := ⟨rfl, rfl, rfl, by decide +kernel, rfl, by decide +kernel, by decide +kernel⟩
noncomputable abbrev s_mode_of : Stmt := top 50
theorem sc_mode_of : FnScope ["how"] ["how"] (defScope s_mode_of) := ⟨rfl, rfl, rfl, by decide +kernel, rfl, by decide +kernel, by decide +kernel⟩
noncomputable abbrev s_holds : Stmt := top 51
theorem sc_holds : FnScope ["how"] ["how"] (defScope s_holds) := ⟨rfl, rfl, rfl, by decide +kernel, rfl, by decide +kernel, by decide +kernel⟩
noncomputable abbrev s_may_put : Stmt := top 52
theorem sc_may_put : FnScope ["f", "how"] ["f", "how"] (defScope s_may_put) := ⟨rfl, rfl, rfl, by decide +kernel, rfl, by decide +kernel, by decide +kernel⟩
noncomputable abbrev s_end_raw : Stmt := top 53
theorem sc_end_raw : FnScope ["f", "below"] ["f", "below"] (defScope s_end_raw) := ⟨rfl, rfl, rfl, by decide +kernel, rfl, by decide +kernel, by decide +kernel⟩
noncomputable abbrev s_put_ratio : Stmt := top 54
theorem sc_put_ratio : FnScope ["x", "f", "how", "kind"] ["x", "f", "how"] (defScope s_put_ratio) := ⟨rfl, rfl, rfl, by decide +kernel, rfl, by decide +kernel, by decide +kernel⟩
noncomputable abbrev s_put_fixed : Stmt := top 55
theorem sc_put_fixed : FnScope ["x", "f", "how", "below", "size", "steps", "flags", "raw"] ["x", "f", "how"] (defScope s_put_fixed) := ⟨rfl, rfl, rfl, by decide +kernel, rfl, by decide +kernel, by decide +kernel⟩
noncomputable abbrev s_put_float : Stmt := top 56
theorem sc_put_float : FnScope ["x", "f", "mode", "below", "fraction_bits", "lowest_place", "place", "size", "raw"] ["x", "f", "mode"] (defScope s_put_float) := ⟨rfl, rfl, rfl, by decide +kernel, rfl, by decide +kernel, by decide +kernel⟩
noncomputable abbrev s_are_good : Stmt := top 59
theorem sc_are_good : FnScope ["c", "raws", "r"] ["c", "raws"] (defScope s_are_good) := ⟨rfl, rfl, rfl, by decide +kernel, rfl, by decide +kernel, by decide +kernel⟩
noncomputable abbrev s_may_look_up : Stmt := top 60
theorem sc_may_look_up : FnScope ["xc", "yc", "xs", "ys"] ["xc", "yc", "xs", "ys"] (defScope s_may_look_up) := ⟨rfl, rfl, rfl, by decide +kernel, rfl, by decide +kernel, by decide +kernel⟩
noncomputable abbrev s_worths_of : Stmt := top 61
theorem sc_worths_of : FnScope ["c", "raws", "r"] ["c", "raws"] (defScope s_worths_of) := ⟨rfl, rfl, rfl, by decide +kernel, rfl, by decide +kernel, by decide +kernel⟩
noncomputable abbrev s_rise : Stmt := top 62
theorem sc_rise : FnScope ["worths", "place"] ["worths"] (defScope s_rise) := ⟨rfl, rfl, rfl, by decide +kernel, rfl, by decide +kernel, by decide +kernel⟩
noncomputable abbrev s_looked_up : Stmt := top 63
theorem sc_looked_up : FnScope ["x", "xs", "ys", "after", "before", "part"] ["x", "xs", "ys"] (defScope s_looked_up) := ⟨rfl, rfl, rfl, by decide +kernel, rfl, by decide +kernel, by decide +kernel⟩
noncomputable abbrev s_table : Stmt := top 67
theorem sc_table : FnScope ["c", "r", "xc", "yc", "f", "how", "xs", "ys", "places"] ["c", "r", "xc", "yc", "f", "how", "xs", "ys"] (defScope s_table) := ⟨rfl, rfl, rfl, by decide +kernel, rfl, by decide +kernel, by decide +kernel⟩
noncomputable abbrev s_Ratio_init : Stmt := inClass (top 20) 0
theorem sc_Ratio_init : FnScope ["self", "top", "bottom"] ["self", "top", "bottom"] (defScope s_Ratio_init) := ⟨rfl, rfl, rfl, by decide +kernel, rfl, by decide +kernel, by decide +kernel⟩
set_option genInjectivity false in
set_option genSizeOf false in
structure Txt (K : PySem.W.Frag) (mg : Str → Option Value) : Type where
  f_kind_of : Addr
  fd_kind_of : FuncData
  F_kind_of : Fun K "kind_of" "kind_of" s_kind_of f_kind_of fd_kind_of
  m_kind_of : mg "kind_of" = some (.ref f_kind_of)
  f_width_of : Addr
  fd_width_of : FuncData
  F_width_of : Fun K "width_of" "width_of" s_width_of f_width_of fd_width_of
  m_width_of : mg "width_of" = some (.ref f_width_of)
  f_point_of : Addr
  fd_point_of : FuncData
  F_point_of : Fun K "point_of" "point_of" s_point_of f_point_of fd_point_of
  m_point_of : mg "point_of" = some (.ref f_point_of)
  f_is_format : Addr
  fd_is_format : FuncData
  F_is_format : Fun K "is_format" "is_format" s_is_format f_is_format fd_is_format
  m_is_format : mg "is_format" = some (.ref f_is_format)
  f_sign_bit : Addr
  fd_sign_bit : FuncData
  F_sign_bit : Fun K "sign_bit" "sign_bit" s_sign_bit f_sign_bit fd_sign_bit
  m_sign_bit : mg "sign_bit" = some (.ref f_sign_bit)
  f_infinity_raw : Addr
  fd_infinity_raw : FuncData
  F_infinity_raw : Fun K "infinity_raw" "infinity_raw" s_infinity_raw f_infinity_raw fd_infinity_raw
  m_infinity_raw : mg "infinity_raw" = some (.ref f_infinity_raw)
  f_greatest_raw : Addr
  fd_greatest_raw : FuncData
  F_greatest_raw : Fun K "greatest_raw" "greatest_raw" s_greatest_raw f_greatest_raw fd_greatest_raw
  m_greatest_raw : mg "greatest_raw" = some (.ref f_greatest_raw)
  f_least_raw : Addr
  fd_least_raw : FuncData
  F_least_raw : Fun K "least_raw" "least_raw" s_least_raw f_least_raw fd_least_raw
  m_least_raw : mg "least_raw" = some (.ref f_least_raw)
  f_common_divisor : Addr
  fd_common_divisor : FuncData
  F_common_divisor : Fun K "common_divisor" "common_divisor" s_common_divisor f_common_divisor fd_common_divisor
  m_common_divisor : mg "common_divisor" = some (.ref f_common_divisor)
  f_plus : Addr
  fd_plus : FuncData
  F_plus : Fun K "plus" "plus" s_plus f_plus fd_plus
  m_plus : mg "plus" = some (.ref f_plus)
  f_minus : Addr
  fd_minus : FuncData
  F_minus : Fun K "minus" "minus" s_minus f_minus fd_minus
  m_minus : mg "minus" = some (.ref f_minus)
  f_times : Addr
  fd_times : FuncData
  F_times : Fun K "times" "times" s_times f_times fd_times
  m_times : mg "times" = some (.ref f_times)
  f_over : Addr
  fd_over : FuncData
  F_over : Fun K "over" "over" s_over f_over fd_over
  m_over : mg "over" = some (.ref f_over)
  f_is_less : Addr
  fd_is_less : FuncData
  F_is_less : Fun K "is_less" "is_less" s_is_less f_is_less fd_is_less
  m_is_less : mg "is_less" = some (.ref f_is_less)
  f_fits_width : Addr
  fd_fits_width : FuncData
  F_fits_width : Fun K "fits_width" "fits_width" s_fits_width f_fits_width fd_fits_width
  m_fits_width : mg "fits_width" = some (.ref f_fits_width)
  f_is_raw : Addr
  fd_is_raw : FuncData
  F_is_raw : Fun K "is_raw" "is_raw" s_is_raw f_is_raw fd_is_raw
  m_is_raw : mg "is_raw" = some (.ref f_is_raw)
  f_is_good : Addr
  fd_is_good : FuncData
  F_is_good : Fun K "is_good" "is_good" s_is_good f_is_good fd_is_good
  m_is_good : mg "is_good" = some (.ref f_is_good)
  f_steps_of : Addr
  fd_steps_of : FuncData
  F_steps_of : Fun K "steps_of" "steps_of" s_steps_of f_steps_of fd_steps_of
  m_steps_of : mg "steps_of" = some (.ref f_steps_of)
  f_float_worth : Addr
  fd_float_worth : FuncData
  F_float_worth : Fun K "float_worth" "float_worth" s_float_worth f_float_worth fd_float_worth
  m_float_worth : mg "float_worth" = some (.ref f_float_worth)
  f_worth_of : Addr
  fd_worth_of : FuncData
  F_worth_of : Fun K "worth_of" "worth_of" s_worth_of f_worth_of fd_worth_of
  m_worth_of : mg "worth_of" = some (.ref f_worth_of)
  f_is_mode : Addr
  fd_is_mode : FuncData
  F_is_mode : Fun K "is_mode" "is_mode" s_is_mode f_is_mode fd_is_mode
  m_is_mode : mg "is_mode" = some (.ref f_is_mode)
  f_in_steps : Addr
  fd_in_steps : FuncData
  F_in_steps : Fun K "in_steps" "in_steps" s_in_steps f_in_steps fd_in_steps
  m_in_steps : mg "in_steps" = some (.ref f_in_steps)
  f_leading_place : Addr
  fd_leading_place : FuncData
  F_leading_place : Fun K "leading_place" "leading_place" s_leading_place f_leading_place fd_leading_place
  m_leading_place : mg "leading_place" = some (.ref f_leading_place)
  f_quarters : Addr
  fd_quarters : FuncData
  F_quarters : Fun K "quarters" "quarters" s_quarters f_quarters fd_quarters
  m_quarters : mg "quarters" = some (.ref f_quarters)
  f_is_whole : Addr
  fd_is_whole : FuncData
  F_is_whole : Fun K "is_whole" "is_whole" s_is_whole f_is_whole fd_is_whole
  m_is_whole : mg "is_whole" = some (.ref f_is_whole)
  f_goes_far : Addr
  fd_goes_far : FuncData
  F_goes_far : Fun K "goes_far" "goes_far" s_goes_far f_goes_far fd_goes_far
  m_goes_far : mg "goes_far" = some (.ref f_goes_far)
  f_rounded : Addr
  fd_rounded : FuncData
  F_rounded : Fun K "rounded" "rounded" s_rounded f_rounded fd_rounded
  m_rounded : mg "rounded" = some (.ref f_rounded)
  f_mode_of : Addr
  fd_mode_of : FuncData
  F_mode_of : Fun K "mode_of" "mode_of" s_mode_of f_mode_of fd_mode_of
  m_mode_of : mg "mode_of" = some (.ref f_mode_of)
  f_holds : Addr
  fd_holds : FuncData
  F_holds : Fun K "holds" "holds" s_holds f_holds fd_holds
  m_holds : mg "holds" = some (.ref f_holds)
  f_may_put : Addr
  fd_may_put : FuncData
  F_may_put : Fun K "may_put" "may_put" s_may_put f_may_put fd_may_put
  m_may_put : mg "may_put" = some (.ref f_may_put)
  f_end_raw : Addr
  fd_end_raw : FuncData
  F_end_raw : Fun K "end_raw" "end_raw" s_end_raw f_end_raw fd_end_raw
  m_end_raw : mg "end_raw" = some (.ref f_end_raw)
  f_put_ratio : Addr
  fd_put_ratio : FuncData
  F_put_ratio : Fun K "put_ratio" "put_ratio" s_put_ratio f_put_ratio fd_put_ratio
  m_put_ratio : mg "put_ratio" = some (.ref f_put_ratio)
  f_put_fixed : Addr
  fd_put_fixed : FuncData
  F_put_fixed : Fun K "put_fixed" "put_fixed" s_put_fixed f_put_fixed fd_put_fixed
  m_put_fixed : mg "put_fixed" = some (.ref f_put_fixed)
  f_put_float : Addr
  fd_put_float : FuncData
  F_put_float : Fun K "put_float" "put_float" s_put_float f_put_float fd_put_float
  m_put_float : mg "put_float" = some (.ref f_put_float)
  f_are_good : Addr
  fd_are_good : FuncData
  F_are_good : Fun K "are_good" "are_good" s_are_good f_are_good fd_are_good
  m_are_good : mg "are_good" = some (.ref f_are_good)
  f_may_look_up : Addr
  fd_may_look_up : FuncData
  F_may_look_up : Fun K "may_look_up" "may_look_up" s_may_look_up f_may_look_up fd_may_look_up
  m_may_look_up : mg "may_look_up" = some (.ref f_may_look_up)
  f_worths_of : Addr
  fd_worths_of : FuncData
  F_worths_of : Fun K "worths_of" "worths_of" s_worths_of f_worths_of fd_worths_of
  m_worths_of : mg "worths_of" = some (.ref f_worths_of)
  f_rise : Addr
  fd_rise : FuncData
  F_rise : Fun K "rise" "rise" s_rise f_rise fd_rise
  m_rise : mg "rise" = some (.ref f_rise)
  f_looked_up : Addr
  fd_looked_up : FuncData
  F_looked_up : Fun K "looked_up" "looked_up" s_looked_up f_looked_up fd_looked_up
  m_looked_up : mg "looked_up" = some (.ref f_looked_up)
  f_table : Addr
  fd_table : FuncData
  F_table : Fun K "table" "table" s_table f_table fd_table
  m_table : mg "table" = some (.ref f_table)
  a_Ratio : Addr
  f_Ratio_init : Addr
  fd_Ratio_init : FuncData
  F_Ratio_init : Fun K "__init__" "Ratio.__init__" s_Ratio_init f_Ratio_init fd_Ratio_init
  m_Ratio : mg "Ratio" = some (.ref a_Ratio)
  cl_Ratio : Cls K a_Ratio
  mk_Ratio : Mk K a_Ratio f_Ratio_init
  na_Ratio_top : NoAttr K a_Ratio "top"
  na_Ratio_bottom : NoAttr K a_Ratio "bottom"
  c_TRUTH : ∃ u, mg "TRUTH" = some u ∧ RelV (.int (0)) u
  c_SIGNED : ∃ u, mg "SIGNED" = some u ∧ RelV (.int (1)) u
  c_UNSIGNED : ∃ u, mg "UNSIGNED" = some u ∧ RelV (.int (2)) u
  c_FLOAT : ∃ u, mg "FLOAT" = some u ∧ RelV (.int (3)) u
  c_T : ∃ u, mg "T" = some u ∧ RelV (.int (2048)) u
  c_F32 : ∃ u, mg "F32" = some u ∧ RelV (.int (204800)) u
  c_F64 : ∃ u, mg "F64" = some u ∧ RelV (.int (212992)) u
  a_WIDTHS : Addr
  c_WIDTHS : ∃ u, mg "WIDTHS" = some u ∧ RelV (.ref a_WIDTHS) u
  q_WIDTHS : ∀ H : Hp, SqT K H a_WIDTHS [.int (8), .int (16), .int (32), .int (64)]
  a_FRACTION_BITS : Addr
  c_FRACTION_BITS : ∃ u, mg "FRACTION_BITS" = some u ∧ RelV (.ref a_FRACTION_BITS) u
  q_FRACTION_BITS : DictK K a_FRACTION_BITS [(32, .int (23)), (64, .int (52))]
  a_LOWEST_PLACES : Addr
  c_LOWEST_PLACES : ∃ u, mg "LOWEST_PLACES" = some u ∧ RelV (.ref a_LOWEST_PLACES) u
  q_LOWEST_PLACES : DictK K a_LOWEST_PLACES [(32, .int (149)), (64, .int (1074))]
  c_INEXACT : ∃ u, mg "INEXACT" = some u ∧ RelV (.int (1)) u
  c_HELD : ∃ u, mg "HELD" = some u ∧ RelV (.int (4)) u
  c_NEAREST_EVEN : ∃ u, mg "NEAREST_EVEN" = some u ∧ RelV (.int (0)) u
  c_TOWARD_NOUGHT : ∃ u, mg "TOWARD_NOUGHT" = some u ∧ RelV (.int (1)) u
  c_UP : ∃ u, mg "UP" = some u ∧ RelV (.int (2)) u
  c_DOWN : ∃ u, mg "DOWN" = some u ∧ RelV (.int (3)) u
  c_NEAREST_FAR : ∃ u, mg "NEAREST_FAR" = some u ∧ RelV (.int (4)) u
  c_MOST_POINTS : ∃ u, mg "MOST_POINTS" = some u ∧ RelV (.int (256)) u
  c_WRONG_ARGUMENT : ∃ u, mg "WRONG_ARGUMENT" = some u ∧ RelV (.int (-1)) u
  c_NOT_FITTING : ∃ u, mg "NOT_FITTING" = some u ∧ RelV (.int (-9)) u
  n_abs : mg "abs" = none
  n_all : mg "all" = none
  n_len : mg "len" = none
  n_max : mg "max" = none
  n_range : mg "range" = none
theorem on1 {α : Type _} {p : List α → Prop} (h : ∀ a0, p [a0]) : ∀ us : List α, us.length = 1 → p us
  | [a0], _ => h a0
theorem on2 {α : Type _} {p : List α → Prop} (h : ∀ a0 a1, p [a0, a1]) : ∀ us : List α, us.length = 2 → p us
  | [a0, a1], _ => h a0 a1
theorem on3 {α : Type _} {p : List α → Prop} (h : ∀ a0 a1 a2, p [a0, a1, a2]) : ∀ us : List α, us.length = 3 → p us
  | [a0, a1, a2], _ => h a0 a1 a2
theorem on4 {α : Type _} {p : List α → Prop} (h : ∀ a0 a1 a2 a3, p [a0, a1, a2, a3]) : ∀ us : List α, us.length = 4 → p us
  | [a0, a1, a2, a3], _ => h a0 a1 a2 a3
theorem on8 {α : Type _} {p : List α → Prop} (h : ∀ a0 a1 a2 a3 a4 a5 a6 a7, p [a0, a1, a2, a3, a4, a5, a6, a7]) : ∀ us : List α, us.length = 8 → p us
  | [a0, a1, a2, a3, a4, a5, a6, a7], _ => h a0 a1 a2 a3 a4 a5 a6 a7
section
variable {P : Program} {w : World} {K : PySem.W.Frag} {mg : Str → Option Value} {base : Heap}
theorem bd_Ratio_init (T : Txt K mg) : Binds K T.fd_Ratio_init ["self", "top", "bottom"] [] := T.F_Ratio_init.binds (ps := ["self", "top", "bottom"]) fun _ _ _ _ _ _ => on3 fun _ _ _ => rfl
theorem ok_Ratio_init (T : Txt K mg) : FnOk P w K mg base CX0 1 T.f_Ratio_init T.fd_Ratio_init ["self", "top", "bottom"] (sp_Ratio_init T.a_Ratio) := by
  refine T.F_Ratio_init.ok sc_Ratio_init (fun vs H Q E h => ?_) (fun cdv A outer s H vs Q E hr h => ?_)
  · obtain ⟨p, dx, t, b, rfl, _⟩ := h
    rfl
  · obtain ⟨p, dx, t, b, rfl, hp, k⟩ := h
    refine ⟨_, pss_cons (ps_fld (pv 0) (pv 1) rfl) (pss_one (ps_fld (pv 0) (pv 2) rfl)), ?_⟩
    refine ⟨_, rfl, _, rfl, p, T.a_Ratio, dx, [], rfl, hp, T.cl_Ratio, T.na_Ratio_top, (by show 0 < 1000; decide), ?_⟩
    refine ⟨_, rfl, _, rfl, p, T.a_Ratio, dx, _, rfl, upd_same, T.cl_Ratio, T.na_Ratio_bottom, (by show 1 < 1000; decide), ?_⟩
    exact k _ ⟨dx, upd_same⟩ fun a o e ha => by rw [upd_ne ha, upd_ne ha]; exact e
noncomputable def sp_kind_of : Sp := fun vs H Q _ => ∃ (c : Int), vs = [.int c] ∧ (True) ∧ ∀ H' : Hp, Same H H' → Q (.int (m_kind_of c)) H'
theorem bd_kind_of (T : Txt K mg) : Binds K T.fd_kind_of ["c"] [] := T.F_kind_of.binds (ps := ["c"]) fun _ _ _ _ _ _ => on1 fun _ => rfl
theorem ok_kind_of (T : Txt K mg) : FnOk P w K mg base CX0 1 T.f_kind_of T.fd_kind_of ["c"] sp_kind_of := by
  refine T.F_kind_of.ok sc_kind_of (fun vs H Q E h => ?_) (fun cdv A outer s H vs Q E hr h => ?_)
  · obtain ⟨c, rfl, _⟩ := h
    rfl
  · obtain ⟨c, rfl, hpre, k⟩ := h
    refine ⟨_, (pss_one (ps_ret (pe_op op_fdivB (pv 0) pe_int))), ?_⟩
    refine ⟨_, rfl, _, _, rfl, rfl, ⟨by decide, by decide⟩, ?_⟩
    exact leaf k Same.refl2 (congrArg V.int (rfl))
noncomputable def sp_width_of : Sp := fun vs H Q _ => ∃ (c : Int), vs = [.int c] ∧ (True) ∧ ∀ H' : Hp, Same H H' → Q (.int (m_width_of c)) H'
theorem bd_width_of (T : Txt K mg) : Binds K T.fd_width_of ["c"] [] := T.F_width_of.binds (ps := ["c"]) fun _ _ _ _ _ _ => on1 fun _ => rfl
theorem ok_width_of (T : Txt K mg) : FnOk P w K mg base CX0 1 T.f_width_of T.fd_width_of ["c"] sp_width_of := by
  refine T.F_width_of.ok sc_width_of (fun vs H Q E h => ?_) (fun cdv A outer s H vs Q E hr h => ?_)
  · obtain ⟨c, rfl, _⟩ := h
    rfl
  · obtain ⟨c, rfl, hpre, k⟩ := h
    refine ⟨_, (pss_one (ps_ret (pe_op op_mod (pe_op op_fdivB (pv 0) pe_int) pe_int))), ?_⟩
    refine ⟨_, rfl, _, _, rfl, rfl, ⟨by decide, by decide⟩, _, _, rfl, rfl, (by show (0 : Int) < _; decide), ?_⟩
    exact leaf k Same.refl2 (congrArg V.int (rfl))
noncomputable def sp_point_of : Sp := fun vs H Q _ => ∃ (c : Int), vs = [.int c] ∧ (True) ∧ ∀ H' : Hp, Same H H' → Q (.int (m_point_of c)) H'
theorem bd_point_of (T : Txt K mg) : Binds K T.fd_point_of ["c"] [] := T.F_point_of.binds (ps := ["c"]) fun _ _ _ _ _ _ => on1 fun _ => rfl
theorem ok_point_of (T : Txt K mg) : FnOk P w K mg base CX0 1 T.f_point_of T.fd_point_of ["c"] sp_point_of := by
  refine T.F_point_of.ok sc_point_of (fun vs H Q E h => ?_) (fun cdv A outer s H vs Q E hr h => ?_)
  · obtain ⟨c, rfl, _⟩ := h
    rfl
  · obtain ⟨c, rfl, hpre, k⟩ := h
    refine ⟨_, (pss_one (ps_ret (pe_op op_mod (pv 0) pe_int))), ?_⟩
    refine ⟨_, rfl, _, _, rfl, rfl, (by show (0 : Int) < _; decide), ?_⟩
    exact leaf k Same.refl2 (congrArg V.int (rfl))
noncomputable def sp_is_format : Sp := fun vs H Q _ => ∃ (c : Int), vs = [.int c] ∧ (True) ∧ ∀ H' : Hp, Same H H' → Q (.bl (m_is_format c)) H'
theorem bd_is_format (T : Txt K mg) : Binds K T.fd_is_format ["c"] [] := T.F_is_format.binds (ps := ["c"]) fun _ _ _ _ _ _ => on1 fun _ => rfl
theorem ok_is_format (T : Txt K mg) : FnOk P w K mg base CX0 2 T.f_is_format T.fd_is_format ["c"] sp_is_format := by
  refine T.F_is_format.ok sc_is_format (fun vs H Q E h => ?_) (fun cdv A outer s H vs Q E hr h => ?_)
  · obtain ⟨c, rfl, _⟩ := h
    rfl
  · obtain ⟨c, rfl, hpre, k⟩ := h
    refine ⟨_, (pss_cons (ps_if (pt_cmpR op_inI (pv 0) (pe_tup (pa_cons (pe_globE rfl T.c_T) (pa_cons (pe_globE rfl T.c_F32) (pa_cons (pe_globE rfl T.c_F64) pa_nil)))) (by with_unfolding_all rfl)) (pss_one (ps_ret pe_bl)) pss_nil)
      (pss_cons (ps_if (pt_cmpR op_notInI (pe_call (ok_kind_of T) (hr.mono (by decide)) rfl T.m_kind_of T.F_kind_of.kp (bd_kind_of T) .nil pass0 (pa_cons (pv 0) pa_nil)) (pe_tup (pa_cons (pe_globE rfl T.c_SIGNED) (pa_cons (pe_globE rfl T.c_UNSIGNED) pa_nil))) (by with_unfolding_all rfl)) (pss_one (ps_ret pe_bl)) pss_nil)
      (pss_one (ps_ret (pe_and (pe_cmpR op_inI (pe_call (ok_width_of T) (hr.mono (by decide)) rfl T.m_width_of T.F_width_of.kp (bd_width_of T) .nil pass0 (pa_cons (pv 0) pa_nil)) (pe_globE rfl T.c_WIDTHS) (by with_unfolding_all rfl)) (pe_one (pe_cmpR op_le (pe_call (ok_point_of T) (hr.mono (by decide)) rfl T.m_point_of T.F_point_of.kp (bd_point_of T) .nil pass0 (pa_cons (pv 0) pa_nil)) (pe_call (ok_width_of T) (hr.mono (by decide)) rfl T.m_width_of T.F_width_of.kp (bd_width_of T) .nil pass0 (pa_cons (pv 0) pa_nil)) (nomark _)))))))), ?_⟩
    refine ⟨_, rfl, (by show 3 ≤ sizeLine; decide), fun p_1 h_2 => ?_⟩
    refine ⟨_, _, [(2048), (204800), (212992)], rfl, rfl, (SqT.of upd_same), _, rfl, ?_⟩
    refine iteB (fun c_3 => ?_) (fun c_3 => ?_)
    · replace c_3 : (c ∈ ([(2048), (204800), (212992)] : List Int)) := of_decide_eq_true c_3
      exact leaf k (Same.new h_2) (congrArg V.bl (by unfold m_is_format; rw [if_pos c_3]; try rfl))
    · replace c_3 : ¬ (c ∈ ([(2048), (204800), (212992)] : List Int)) := of_decide_eq_false c_3
      refine ⟨_, rfl, _, rfl, trivial, fun H_4 s_5 => ?_⟩
      refine ⟨(by show 2 ≤ sizeLine; decide), fun p_6 h_7 => ?_⟩
      refine ⟨_, _, [(1), (2)], rfl, rfl, (SqT.of upd_same), _, rfl, ?_⟩
      refine iteB (fun c_8 => ?_) (fun c_8 => ?_)
      · replace c_8 : (¬ ((m_kind_of c) ∈ ([(1), (2)] : List Int))) := of_decide_eq_true c_8
        exact leaf k (Same.trans (Same.trans (Same.new h_2) s_5) (Same.new h_7)) (congrArg V.bl (by unfold m_is_format; rw [if_neg c_3, if_pos c_8]; try rfl))
      · replace c_8 : ¬ (¬ ((m_kind_of c) ∈ ([(1), (2)] : List Int))) := of_decide_eq_false c_8
        refine ⟨_, rfl, _, rfl, trivial, fun H_9 s_10 => ?_⟩
        refine ⟨_, _, [(8), (16), (32), (64)], rfl, rfl, (T.q_WIDTHS _), _, rfl, ?_⟩
        refine iteB (fun c_11 => ?_) (fun c_11 => ?_)
        · replace c_11 : ((m_width_of c) ∈ ([(8), (16), (32), (64)] : List Int)) := of_decide_eq_true c_11
          refine ⟨_, rfl, _, rfl, trivial, fun H_12 s_13 => ?_⟩
          refine ⟨_, rfl, _, rfl, trivial, fun H_14 s_15 => ?_⟩
          refine ⟨_, _, rfl, rfl, ?_⟩
          exact leaf k (Same.trans (Same.trans (Same.trans (Same.trans (Same.trans (Same.new h_2) s_5) (Same.new h_7)) s_10) s_13) s_15) (congrArg V.bl (by unfold m_is_format; rw [if_neg c_3, if_neg c_8, if_pos c_11]; try rfl))
        · replace c_11 : ¬ ((m_width_of c) ∈ ([(8), (16), (32), (64)] : List Int)) := of_decide_eq_false c_11
          exact leaf k (Same.trans (Same.trans (Same.trans (Same.new h_2) s_5) (Same.new h_7)) s_10) (congrArg V.bl (by unfold m_is_format; rw [if_neg c_3, if_neg c_8, if_neg c_11]; try rfl))
noncomputable def sp_sign_bit : Sp := fun vs H Q _ => ∃ (c : Int), vs = [.int c] ∧ (1 ≤ m_width_of c) ∧ ∀ H' : Hp, Same H H' → Q (.int (m_sign_bit c)) H'
theorem bd_sign_bit (T : Txt K mg) : Binds K T.fd_sign_bit ["c"] [] := T.F_sign_bit.binds (ps := ["c"]) fun _ _ _ _ _ _ => on1 fun _ => rfl
theorem ok_sign_bit (T : Txt K mg) : FnOk P w K mg base CX0 2 T.f_sign_bit T.fd_sign_bit ["c"] sp_sign_bit := by
  refine T.F_sign_bit.ok sc_sign_bit (fun vs H Q E h => ?_) (fun cdv A outer s H vs Q E hr h => ?_)
  · obtain ⟨c, rfl, _⟩ := h
    rfl
  · obtain ⟨c, rfl, hpre, k⟩ := h
    refine ⟨_, (pss_one (ps_ret (pe_op op_shlB pe_int (pe_op op_sub (pe_call (ok_width_of T) (hr.mono (by decide)) rfl T.m_width_of T.F_width_of.kp (bd_width_of T) .nil pass0 (pa_cons (pv 0) pa_nil)) pe_int)))), ?_⟩
    refine ⟨_, rfl, _, rfl, trivial, fun H_1 s_2 => ?_⟩
    refine ⟨_, _, rfl, rfl, _, _, rfl, rfl, cshl (by omega) (m := 1) (by decide) (by have := width_lt c; omega), ?_⟩
    exact leaf k s_2 (congrArg V.int (rfl))
noncomputable def sp_infinity_raw : Sp := fun vs H Q _ => ∃ (c : Int), vs = [.int c] ∧ (m_width_of c = 32 ∨ m_width_of c = 64) ∧ ∀ H' : Hp, Same H H' → Q (.int (m_infinity_raw c)) H'
theorem bd_infinity_raw (T : Txt K mg) : Binds K T.fd_infinity_raw ["c"] [] := T.F_infinity_raw.binds (ps := ["c"]) fun _ _ _ _ _ _ => on1 fun _ => rfl
theorem ok_infinity_raw (T : Txt K mg) : FnOk P w K mg base CX0 3 T.f_infinity_raw T.fd_infinity_raw ["c"] sp_infinity_raw := by
  refine T.F_infinity_raw.ok sc_infinity_raw (fun vs H Q E h => ?_) (fun cdv A outer s H vs Q E hr h => ?_)
  · obtain ⟨c, rfl, _⟩ := h
    rfl
  · obtain ⟨c, rfl, hpre, k⟩ := h
    refine ⟨_, (pss_one (ps_ret (pe_op op_sub (pe_call (ok_sign_bit T) (hr.mono (by decide)) rfl T.m_sign_bit T.F_sign_bit.kp (bd_sign_bit T) .nil pass0 (pa_cons (pv 0) pa_nil)) (pe_op op_shlB pe_int (pe_dgetK (hu_of hr) (pe_globE rfl T.c_FRACTION_BITS) (pe_call (ok_width_of T) (hr.mono (by decide)) rfl T.m_width_of T.F_width_of.kp (bd_width_of T) .nil pass0 (pa_cons (pv 0) pa_nil)) (fun _ _ => rfl)))))), ?_⟩
    refine ⟨_, rfl, _, rfl, (by omega), fun H_1 s_2 => ?_⟩
    refine ⟨_, rfl, _, rfl, trivial, fun H_3 s_4 => ?_⟩
    refine ⟨T.a_FRACTION_BITS, .int (dictI [(32, 23), (64, 52)] (m_width_of c)), rfl, _, _, T.q_FRACTION_BITS, rfl, (by rcases hpre with h | h <;> rw [h] <;> rfl), _, _, rfl, rfl, cshl (fbits hpre).1 (m := 1) (by decide) (by have := (fbits hpre).2; omega), _, _, rfl, rfl, ?_⟩
    exact leaf k (Same.trans s_2 s_4) (congrArg V.int (rfl))
noncomputable def sp_greatest_raw : Sp := fun vs H Q _ => ∃ (c : Int), vs = [.int c] ∧ (m_is_format c = true) ∧ ∀ H' : Hp, Same H H' → Q (.int (m_greatest_raw c)) H'
theorem bd_greatest_raw (T : Txt K mg) : Binds K T.fd_greatest_raw ["c"] [] := T.F_greatest_raw.binds (ps := ["c"]) fun _ _ _ _ _ _ => on1 fun _ => rfl
theorem ok_greatest_raw (T : Txt K mg) : FnOk P w K mg base CX0 4 T.f_greatest_raw T.fd_greatest_raw ["c"] sp_greatest_raw := by
  refine T.F_greatest_raw.ok sc_greatest_raw (fun vs H Q E h => ?_) (fun cdv A outer s H vs Q E hr h => ?_)
  · obtain ⟨c, rfl, _⟩ := h
    rfl
  · obtain ⟨c, rfl, hpre, k⟩ := h
    refine ⟨_, (pss_cons (ps_set (i := 1) sc_greatest_raw.nd rfl (Or.inl rfl) (pe_call (ok_kind_of T) (hr.mono (by decide)) rfl T.m_kind_of T.F_kind_of.kp (bd_kind_of T) .nil pass0 (pa_cons (pv 0) pa_nil)))
      (pss_cons (ps_if (pt_cmpR op_eqI (pv 1) (pe_globE rfl T.c_SIGNED) (nomark _)) (pss_one (ps_ret (pe_op op_sub (pe_call (ok_sign_bit T) (hr.mono (by decide)) rfl T.m_sign_bit T.F_sign_bit.kp (bd_sign_bit T) .nil pass0 (pa_cons (pv 0) pa_nil)) pe_int))) pss_nil)
      (pss_cons (ps_if (pt_cmpR op_eqI (pv 1) (pe_globE rfl T.c_UNSIGNED) (nomark _)) (pss_one (ps_ret (pe_op op_sub (pe_op op_shlB pe_int (pe_call (ok_width_of T) (hr.mono (by decide)) rfl T.m_width_of T.F_width_of.kp (bd_width_of T) .nil pass0 (pa_cons (pv 0) pa_nil))) pe_int))) pss_nil)
      (pss_cons (ps_if (pt_cmpR op_eqI (pv 1) (pe_globE rfl T.c_FLOAT) (nomark _)) (pss_one (ps_ret (pe_op op_sub (pe_call (ok_infinity_raw T) (hr.mono (by decide)) rfl T.m_infinity_raw T.F_infinity_raw.kp (bd_infinity_raw T) .nil pass0 (pa_cons (pv 0) pa_nil)) pe_int))) pss_nil)
      (pss_one (ps_ret pe_int)))))), ?_⟩
    refine ⟨_, rfl, _, rfl, trivial, fun H_1 s_2 => ?_⟩
    refine ⟨_, rfl, _, _, rfl, rfl, _, rfl, ?_⟩
    refine iteB (fun c_3 => ?_) (fun c_3 => ?_)
    · replace c_3 : ((m_kind_of c) = (1)) := of_decide_eq_true c_3
      refine ⟨_, rfl, _, rfl, (isf_pos hpre), fun H_4 s_5 => ?_⟩
      refine ⟨_, _, rfl, rfl, ?_⟩
      exact leaf k (Same.trans s_2 s_5) (congrArg V.int (by unfold m_greatest_raw; rw [if_pos c_3]; try rfl))
    · replace c_3 : ¬ ((m_kind_of c) = (1)) := of_decide_eq_false c_3
      refine ⟨_, rfl, _, _, rfl, rfl, _, rfl, ?_⟩
      refine iteB (fun c_6 => ?_) (fun c_6 => ?_)
      · replace c_6 : ((m_kind_of c) = (2)) := of_decide_eq_true c_6
        refine ⟨_, rfl, _, rfl, trivial, fun H_7 s_8 => ?_⟩
        refine ⟨_, _, rfl, rfl, cshl (width_nn c) (m := 1) (by decide) (by have := width_lt c; omega), _, _, rfl, rfl, ?_⟩
        exact leaf k (Same.trans s_2 s_8) (congrArg V.int (by unfold m_greatest_raw; rw [if_neg c_3, if_pos c_6]; try rfl))
      · replace c_6 : ¬ ((m_kind_of c) = (2)) := of_decide_eq_false c_6
        refine ⟨_, rfl, _, _, rfl, rfl, _, rfl, ?_⟩
        refine iteB (fun c_9 => ?_) (fun c_9 => ?_)
        · replace c_9 : ((m_kind_of c) = (3)) := of_decide_eq_true c_9
          refine ⟨_, rfl, _, rfl, (isf_float hpre (by assumption)), fun H_10 s_11 => ?_⟩
          refine ⟨_, _, rfl, rfl, ?_⟩
          exact leaf k (Same.trans s_2 s_11) (congrArg V.int (by unfold m_greatest_raw; rw [if_neg c_3, if_neg c_6, if_pos c_9]; try rfl))
        · replace c_9 : ¬ ((m_kind_of c) = (3)) := of_decide_eq_false c_9
          exact leaf k s_2 (congrArg V.int (by unfold m_greatest_raw; rw [if_neg c_3, if_neg c_6, if_neg c_9]; try rfl))
noncomputable def sp_least_raw : Sp := fun vs H Q _ => ∃ (c : Int), vs = [.int c] ∧ (m_is_format c = true) ∧ ∀ H' : Hp, Same H H' → Q (.int (m_least_raw c)) H'
theorem bd_least_raw (T : Txt K mg) : Binds K T.fd_least_raw ["c"] [] := T.F_least_raw.binds (ps := ["c"]) fun _ _ _ _ _ _ => on1 fun _ => rfl
theorem ok_least_raw (T : Txt K mg) : FnOk P w K mg base CX0 5 T.f_least_raw T.fd_least_raw ["c"] sp_least_raw := by
  refine T.F_least_raw.ok sc_least_raw (fun vs H Q E h => ?_) (fun cdv A outer s H vs Q E hr h => ?_)
  · obtain ⟨c, rfl, _⟩ := h
    rfl
  · obtain ⟨c, rfl, hpre, k⟩ := h
    refine ⟨_, (pss_cons (ps_set (i := 1) sc_least_raw.nd rfl (Or.inl rfl) (pe_call (ok_kind_of T) (hr.mono (by decide)) rfl T.m_kind_of T.F_kind_of.kp (bd_kind_of T) .nil pass0 (pa_cons (pv 0) pa_nil)))
      (pss_cons (ps_if (pt_cmpR op_eqI (pv 1) (pe_globE rfl T.c_SIGNED) (nomark _)) (pss_one (ps_ret (pe_call (ok_sign_bit T) (hr.mono (by decide)) rfl T.m_sign_bit T.F_sign_bit.kp (bd_sign_bit T) .nil pass0 (pa_cons (pv 0) pa_nil)))) pss_nil)
      (pss_cons (ps_if (pt_cmpR op_eqI (pv 1) (pe_globE rfl T.c_FLOAT) (nomark _)) (pss_one (ps_ret (pe_op op_add (pe_call (ok_sign_bit T) (hr.mono (by decide)) rfl T.m_sign_bit T.F_sign_bit.kp (bd_sign_bit T) .nil pass0 (pa_cons (pv 0) pa_nil)) (pe_call (ok_greatest_raw T) (hr.mono (by decide)) rfl T.m_greatest_raw T.F_greatest_raw.kp (bd_greatest_raw T) .nil pass0 (pa_cons (pv 0) pa_nil))))) pss_nil)
      (pss_one (ps_ret pe_int))))), ?_⟩
    refine ⟨_, rfl, _, rfl, trivial, fun H_1 s_2 => ?_⟩
    refine ⟨_, rfl, _, _, rfl, rfl, _, rfl, ?_⟩
    refine iteB (fun c_3 => ?_) (fun c_3 => ?_)
    · replace c_3 : ((m_kind_of c) = (1)) := of_decide_eq_true c_3
      refine ⟨_, rfl, _, rfl, (isf_pos hpre), fun H_4 s_5 => ?_⟩
      exact leaf k (Same.trans s_2 s_5) (congrArg V.int (by unfold m_least_raw; rw [if_pos c_3]; try rfl))
    · replace c_3 : ¬ ((m_kind_of c) = (1)) := of_decide_eq_false c_3
      refine ⟨_, rfl, _, _, rfl, rfl, _, rfl, ?_⟩
      refine iteB (fun c_6 => ?_) (fun c_6 => ?_)
      · replace c_6 : ((m_kind_of c) = (3)) := of_decide_eq_true c_6
        refine ⟨_, rfl, _, rfl, (isf_pos hpre), fun H_7 s_8 => ?_⟩
        refine ⟨_, rfl, _, rfl, hpre, fun H_9 s_10 => ?_⟩
        refine ⟨_, _, rfl, rfl, ?_⟩
        exact leaf k (Same.trans (Same.trans s_2 s_8) s_10) (congrArg V.int (by unfold m_least_raw; rw [if_neg c_3, if_pos c_6]; try rfl))
      · replace c_6 : ¬ ((m_kind_of c) = (3)) := of_decide_eq_false c_6
        exact leaf k s_2 (congrArg V.int (by unfold m_least_raw; rw [if_neg c_3, if_neg c_6]; try rfl))
noncomputable def sp_common_divisor : Sp := fun vs H Q _ => ∃ (a b : Int), vs = [.int a, .int b] ∧ (0 ≤ a ∧ 0 ≤ b) ∧ ∀ H' : Hp, Same H H' → Q (.int (m_common_divisor a b)) H'
theorem bd_common_divisor (T : Txt K mg) : Binds K T.fd_common_divisor ["a", "b"] [] := T.F_common_divisor.binds (ps := ["a", "b"]) fun _ _ _ _ _ _ => on2 fun _ _ => rfl
theorem ok_common_divisor (T : Txt K mg) : FnOk P w K mg base CX0 1 T.f_common_divisor T.fd_common_divisor ["a", "b"] sp_common_divisor := by
  refine T.F_common_divisor.ok sc_common_divisor (fun vs H Q E h => ?_) (fun cdv A outer s H vs Q E hr h => ?_)
  · obtain ⟨a, b, rfl, _⟩ := h
    rfl
  · obtain ⟨a, b, rfl, ⟨a0, b0⟩, k⟩ := h
    refine ⟨_, (pss_cons (ps_while PassesOwn.never (pt_cmpR op_neI (pv 1) pe_int (nomark _)) (pss_cons (ps_set (i := 2) sc_common_divisor.nd rfl (Or.inl rfl) (pe_op op_mod (pv 0) (pv 1)))
      (pss_cons (ps_set (i := 0) sc_common_divisor.nd rfl (Or.inl rfl) (pv 1))
      (pss_one (ps_set (i := 1) sc_common_divisor.nd rfl (Or.inl rfl) (pv 2))))))
      (pss_one (ps_ret (pv 0)))), ?_⟩
    refine ⟨fun m σ' H' => ∃ (x y : Int) (v : Option V), σ' = [some (.int x), some (.int y), v] ∧ H' = H ∧ 0 ≤ x ∧ 0 ≤ y ∧ Int.gcd x y = Int.gcd a b ∧ m = y.toNat, ⟨_, a, b, none, rfl, rfl, a0, b0, rfl, rfl⟩, ?_⟩
    rintro m σ' H' ⟨x, y, v, rfl, rfl, x0, y0, hg, rfl⟩
    refine ⟨_, rfl, _, _, rfl, rfl, _, rfl, ?_⟩
    refine iteB (fun c => ?_) (fun c => ?_)
    · replace c : ¬ y = 0 := of_decide_eq_true c
      have yp : 0 < y := by omega
      have h1 := Int.emod_nonneg x (show y ≠ 0 by omega)
      have h2 := Int.emod_lt_of_pos x yp
      refine ⟨fun σ'' H'' => σ'' = [some (.int y), some (.int (x % y)), some (.int (x % y))] ∧ H'' = H', ?_, ?_⟩
      · rintro σ'' H'' ⟨rfl, rfl⟩
        exact ⟨(x % y).toNat, by omega, y, x % y, _, rfl, rfl, y0, h1, (gcd_step x0 yp).trans hg, rfl⟩
      · exact ⟨_, rfl, _, rfl, _, _, rfl, rfl, yp, _, rfl, _, rfl, rfl, rfl⟩
    · replace c : ¬ ¬ y = 0 := of_decide_eq_false c
      have y00 : y = 0 := Decidable.byContradiction c
      subst y00
      refine ⟨_, rfl, ?_⟩
      refine leaf k Same.refl2 (congrArg V.int ?_)
      unfold m_common_divisor
      rw [← hg]
      simp [Int.gcd]
      omega
noncomputable def sp_plus (C : Addr) : Sp := fun vs H Q _ => ∃ (x_p : Addr) (x_t x_b : Int) (y_p : Addr) (y_t y_b : Int), vs = [.ref x_p, .ref y_p] ∧ RatAt C H x_p x_t x_b ∧ RatAt C H y_p y_t y_b ∧ (RB x_t x_b ∧ RB y_t y_b) ∧ ∀ (H' : Hp) (p : Addr), Same H H' → RatAt C H' p (m_plus x_t x_b y_t y_b).1 (m_plus x_t x_b y_t y_b).2 → Q (.ref p) H'
theorem bd_plus (T : Txt K mg) : Binds K T.fd_plus ["x", "y"] [] := T.F_plus.binds (ps := ["x", "y"]) fun _ _ _ _ _ _ => on2 fun _ _ => rfl
theorem ok_plus (T : Txt K mg) : FnOk P w K mg base CX0 3 T.f_plus T.fd_plus ["x", "y"] (sp_plus T.a_Ratio) := by
  refine T.F_plus.ok sc_plus (fun vs H Q E h => ?_) (fun cdv A outer s H vs Q E hr h => ?_)
  · obtain ⟨x_p, x_t, x_b, y_p, y_t, y_b, rfl, _⟩ := h
    rfl
  · obtain ⟨x_p, x_t, x_b, y_p, y_t, y_b, rfl, h_x, h_y, hpre, k⟩ := h
    obtain ⟨⟨b0, b1, t1⟩, ⟨d0, d1, u1⟩⟩ := hpre
    obtain ⟨N0, N1, N2⟩ := plus_parts b0 d0
    have g0 := common_pos (d := y_b) b0
    have gs : Sz 8000 (m_common_divisor x_b y_b) := b1.of_le (common_le b0)
    have qs : Sz 8000 (x_b / m_common_divisor x_b y_b) := b1.of_le (ediv_le_abs g0 (Int.le_of_lt b0))
    have Ns : Sz 16000 (x_b / m_common_divisor x_b y_b * y_b) := qs.mul d1
    have us : Sz 16000 (x_b / m_common_divisor x_b y_b * y_b / x_b) := Ns.of_le (ediv_le_abs b0 (Int.le_of_lt N0))
    have vs2 : Sz 16000 (x_b / m_common_divisor x_b y_b * y_b / y_b) := Ns.of_le (ediv_le_abs d0 (Int.le_of_lt N0))
    refine ⟨_, (pss_cons (ps_set (i := 2) sc_plus.nd rfl (Or.inl rfl) (pe_call (ok_common_divisor T) (hr.mono (by decide)) rfl T.m_common_divisor T.F_common_divisor.kp (bd_common_divisor T) .nil pass0 (pa_cons (pe_fld (pv 0) rfl) (pa_cons (pe_fld (pv 1) rfl) pa_nil))))
      (pss_cons (ps_set (i := 3) sc_plus.nd rfl (Or.inl rfl) (pe_op op_mulB (pe_op op_fdivB (pe_fld (pv 0) rfl) (pv 2)) (pe_fld (pv 1) rfl)))
      (pss_one (ps_ret (pe_make T.mk_Ratio (ok_Ratio_init T) (hr.mono (by decide)) rfl T.m_Ratio (bd_Ratio_init T) .nil pass0 (pa_cons (pe_op op_add (pe_op op_mulB (pe_fld (pv 0) rfl) (pe_op op_fdivB (pv 3) (pe_fld (pv 0) rfl))) (pe_op op_mulB (pe_fld (pv 1) rfl) (pe_op op_fdivB (pv 3) (pe_fld (pv 1) rfl)))) (pa_cons (pv 3) pa_nil))))))), ?_⟩
    refine ⟨_, rfl, fld_bottom h_x T.cl_Ratio T.na_Ratio_bottom ?_⟩
    refine ⟨_, rfl, fld_bottom h_y T.cl_Ratio T.na_Ratio_bottom ?_⟩
    refine ⟨_, _, rfl, ⟨Int.le_of_lt b0, Int.le_of_lt d0⟩, fun H_1 s_2 => ?_⟩
    refine ⟨_, rfl, fld_bottom (RatAt.keep s_2 h_x) T.cl_Ratio T.na_Ratio_bottom ?_⟩
    refine ⟨_, rfl, _, _, rfl, rfl, cdiv g0 gs, _, rfl, fld_bottom (RatAt.keep s_2 h_y) T.cl_Ratio T.na_Ratio_bottom ?_⟩
    refine ⟨_, _, rfl, rfl, cmul qs d1, _, rfl, fld_top (RatAt.keep s_2 h_x) T.cl_Ratio T.na_Ratio_top ?_⟩
    refine ⟨_, rfl, _, rfl, fld_bottom (RatAt.keep s_2 h_x) T.cl_Ratio T.na_Ratio_bottom ?_⟩
    refine ⟨_, _, rfl, rfl, cdiv b0 b1, _, _, rfl, rfl, cmul t1 us, _, rfl, fld_top (RatAt.keep s_2 h_y) T.cl_Ratio T.na_Ratio_top ?_⟩
    refine ⟨_, rfl, _, rfl, fld_bottom (RatAt.keep s_2 h_y) T.cl_Ratio T.na_Ratio_bottom ?_⟩
    refine ⟨_, _, rfl, rfl, cdiv d0 d1, _, _, rfl, rfl, cmul u1 vs2, _, _, rfl, rfl, _, rfl, ?_⟩
    intro p_4 d_7 n_8 n_9 _
    refine ⟨p_4, d_7, _, _, rfl, upd_same, fun H_3 h_6 k_10 => ⟨rfl, ?_⟩⟩
    have s_5 := Same.made n_8 n_9 k_10
    exact leafR (u := (((x_t * (((x_b / (m_common_divisor x_b y_b)) * y_b) / x_b)) + (y_t * (((x_b / (m_common_divisor x_b y_b)) * y_b) / y_b))), ((x_b / (m_common_divisor x_b y_b)) * y_b))) k (Same.trans s_2 s_5) h_6 (rfl)
noncomputable def sp_minus (C : Addr) : Sp := fun vs H Q _ => ∃ (x_p : Addr) (x_t x_b : Int) (y_p : Addr) (y_t y_b : Int), vs = [.ref x_p, .ref y_p] ∧ RatAt C H x_p x_t x_b ∧ RatAt C H y_p y_t y_b ∧ (RB x_t x_b ∧ RB y_t y_b) ∧ ∀ (H' : Hp) (p : Addr), Same H H' → RatAt C H' p (m_minus x_t x_b y_t y_b).1 (m_minus x_t x_b y_t y_b).2 → Q (.ref p) H'
theorem bd_minus (T : Txt K mg) : Binds K T.fd_minus ["x", "y"] [] := T.F_minus.binds (ps := ["x", "y"]) fun _ _ _ _ _ _ => on2 fun _ _ => rfl
theorem ok_minus (T : Txt K mg) : FnOk P w K mg base CX0 4 T.f_minus T.fd_minus ["x", "y"] (sp_minus T.a_Ratio) := by
  refine T.F_minus.ok sc_minus (fun vs H Q E h => ?_) (fun cdv A outer s H vs Q E hr h => ?_)
  · obtain ⟨x_p, x_t, x_b, y_p, y_t, y_b, rfl, _⟩ := h
    rfl
  · obtain ⟨x_p, x_t, x_b, y_p, y_t, y_b, rfl, h_x, h_y, hpre, k⟩ := h
    refine ⟨_, (pss_one (ps_ret (pe_call (ok_plus T) (hr.mono (by decide)) rfl T.m_plus T.F_plus.kp (bd_plus T) .nil pass0 (pa_cons (pv 0) (pa_cons (pe_make T.mk_Ratio (ok_Ratio_init T) (hr.mono (by decide)) rfl T.m_Ratio (bd_Ratio_init T) .nil pass0 (pa_cons (pe_un un_neg (pe_fld (pv 1) rfl)) (pa_cons (pe_fld (pv 1) rfl) pa_nil))) pa_nil))))), ?_⟩
    refine ⟨_, rfl, _, rfl, fld_top h_y T.cl_Ratio T.na_Ratio_top ?_⟩
    refine ⟨_, rfl, _, rfl, fld_bottom h_y T.cl_Ratio T.na_Ratio_bottom ?_⟩
    intro p_2 d_5 n_6 n_7 _
    refine ⟨p_2, d_5, _, _, rfl, upd_same, fun H_1 h_4 k_8 => ⟨rfl, ?_⟩⟩
    have s_3 := Same.made n_6 n_7 k_8
    refine ⟨_, _, _, _, _, _, rfl, (RatAt.keep s_3 h_x), h_4, ⟨hpre.1, hpre.2.1, hpre.2.2.1, hpre.2.2.2.neg⟩, fun H_9 p_11 s_10 h_12 => ?_⟩
    exact leafR (u := (m_plus x_t x_b (-y_t) y_b)) k (Same.trans s_3 s_10) h_12 (rfl)
noncomputable def sp_times (C : Addr) : Sp := fun vs H Q _ => ∃ (x_p : Addr) (x_t x_b : Int) (y_p : Addr) (y_t y_b : Int), vs = [.ref x_p, .ref y_p] ∧ RatAt C H x_p x_t x_b ∧ RatAt C H y_p y_t y_b ∧ (RB x_t x_b ∧ RB y_t y_b) ∧ ∀ (H' : Hp) (p : Addr), Same H H' → RatAt C H' p (m_times x_t x_b y_t y_b).1 (m_times x_t x_b y_t y_b).2 → Q (.ref p) H'
theorem bd_times (T : Txt K mg) : Binds K T.fd_times ["x", "y"] [] := T.F_times.binds (ps := ["x", "y"]) fun _ _ _ _ _ _ => on2 fun _ _ => rfl
theorem ok_times (T : Txt K mg) : FnOk P w K mg base CX0 3 T.f_times T.fd_times ["x", "y"] (sp_times T.a_Ratio) := by
  refine T.F_times.ok sc_times (fun vs H Q E h => ?_) (fun cdv A outer s H vs Q E hr h => ?_)
  · obtain ⟨x_p, x_t, x_b, y_p, y_t, y_b, rfl, _⟩ := h
    rfl
  · obtain ⟨x_p, x_t, x_b, y_p, y_t, y_b, rfl, h_x, h_y, hpre, k⟩ := h
    refine ⟨_, (pss_one (ps_ret (pe_make T.mk_Ratio (ok_Ratio_init T) (hr.mono (by decide)) rfl T.m_Ratio (bd_Ratio_init T) .nil pass0 (pa_cons (pe_op op_mulB (pe_fld (pv 0) rfl) (pe_fld (pv 1) rfl)) (pa_cons (pe_op op_mulB (pe_fld (pv 0) rfl) (pe_fld (pv 1) rfl)) pa_nil))))), ?_⟩
    refine ⟨_, rfl, fld_top h_x T.cl_Ratio T.na_Ratio_top ?_⟩
    refine ⟨_, rfl, fld_top h_y T.cl_Ratio T.na_Ratio_top ?_⟩
    refine ⟨_, _, rfl, rfl, cmul hpre.1.2.2 hpre.2.2.2, _, rfl, fld_bottom h_x T.cl_Ratio T.na_Ratio_bottom ?_⟩
    refine ⟨_, rfl, fld_bottom h_y T.cl_Ratio T.na_Ratio_bottom ?_⟩
    refine ⟨_, _, rfl, rfl, cmul hpre.1.2.1 hpre.2.2.1, ?_⟩
    intro p_2 d_5 n_6 n_7 _
    refine ⟨p_2, d_5, _, _, rfl, upd_same, fun H_1 h_4 k_8 => ⟨rfl, ?_⟩⟩
    have s_3 := Same.made n_6 n_7 k_8
    exact leafR (u := ((x_t * y_t), (x_b * y_b))) k s_3 h_4 (rfl)
noncomputable def sp_over (C : Addr) : Sp := fun vs H Q _ => ∃ (x_p : Addr) (x_t x_b : Int) (y_p : Addr) (y_t y_b : Int), vs = [.ref x_p, .ref y_p] ∧ RatAt C H x_p x_t x_b ∧ RatAt C H y_p y_t y_b ∧ (RB x_t x_b ∧ RB y_t y_b) ∧ ∀ (H' : Hp) (p : Addr), Same H H' → RatAt C H' p (m_over x_t x_b y_t y_b).1 (m_over x_t x_b y_t y_b).2 → Q (.ref p) H'
theorem bd_over (T : Txt K mg) : Binds K T.fd_over ["x", "y"] [] := T.F_over.binds (ps := ["x", "y"]) fun _ _ _ _ _ _ => on2 fun _ _ => rfl
theorem ok_over (T : Txt K mg) : FnOk P w K mg base CX0 3 T.f_over T.fd_over ["x", "y"] (sp_over T.a_Ratio) := by
  refine T.F_over.ok sc_over (fun vs H Q E h => ?_) (fun cdv A outer s H vs Q E hr h => ?_)
  · obtain ⟨x_p, x_t, x_b, y_p, y_t, y_b, rfl, _⟩ := h
    rfl
  · obtain ⟨x_p, x_t, x_b, y_p, y_t, y_b, rfl, h_x, h_y, hpre, k⟩ := h
    refine ⟨_, (pss_cons (ps_if (pt_cmpR op_lt (pe_fld (pv 1) rfl) pe_int (nomark _)) (pss_one (ps_ret (pe_make T.mk_Ratio (ok_Ratio_init T) (hr.mono (by decide)) rfl T.m_Ratio (bd_Ratio_init T) .nil pass0 (pa_cons (pe_op op_mulB (pe_un un_neg (pe_fld (pv 0) rfl)) (pe_fld (pv 1) rfl)) (pa_cons (pe_op op_mulB (pe_fld (pv 0) rfl) (pe_un un_neg (pe_fld (pv 1) rfl))) pa_nil))))) pss_nil)
      (pss_one (ps_ret (pe_make T.mk_Ratio (ok_Ratio_init T) (hr.mono (by decide)) rfl T.m_Ratio (bd_Ratio_init T) .nil pass0 (pa_cons (pe_op op_mulB (pe_fld (pv 0) rfl) (pe_fld (pv 1) rfl)) (pa_cons (pe_op op_mulB (pe_fld (pv 0) rfl) (pe_fld (pv 1) rfl)) pa_nil)))))), ?_⟩
    refine ⟨_, rfl, fld_top h_y T.cl_Ratio T.na_Ratio_top ?_⟩
    refine ⟨_, _, rfl, rfl, _, rfl, ?_⟩
    refine iteB (fun c_1 => ?_) (fun c_1 => ?_)
    · replace c_1 : (y_t < (0)) := of_decide_eq_true c_1
      refine ⟨_, rfl, fld_top h_x T.cl_Ratio T.na_Ratio_top ?_⟩
      refine ⟨_, rfl, _, rfl, fld_bottom h_y T.cl_Ratio T.na_Ratio_bottom ?_⟩
      refine ⟨_, _, rfl, rfl, cmul hpre.1.2.2.neg hpre.2.2.1, _, rfl, fld_bottom h_x T.cl_Ratio T.na_Ratio_bottom ?_⟩
      refine ⟨_, rfl, fld_top h_y T.cl_Ratio T.na_Ratio_top ?_⟩
      refine ⟨_, rfl, _, _, rfl, rfl, cmul hpre.1.2.1 hpre.2.2.2.neg, ?_⟩
      intro p_3 d_6 n_7 n_8 _
      refine ⟨p_3, d_6, _, _, rfl, upd_same, fun H_2 h_5 k_9 => ⟨rfl, ?_⟩⟩
      have s_4 := Same.made n_7 n_8 k_9
      exact leafR (u := (((-x_t) * y_b), (x_b * (-y_t)))) k s_4 h_5 (by unfold m_over; rw [if_pos c_1]; try rfl)
    · replace c_1 : ¬ (y_t < (0)) := of_decide_eq_false c_1
      refine ⟨_, rfl, fld_top h_x T.cl_Ratio T.na_Ratio_top ?_⟩
      refine ⟨_, rfl, fld_bottom h_y T.cl_Ratio T.na_Ratio_bottom ?_⟩
      refine ⟨_, _, rfl, rfl, cmul hpre.1.2.2 hpre.2.2.1, _, rfl, fld_bottom h_x T.cl_Ratio T.na_Ratio_bottom ?_⟩
      refine ⟨_, rfl, fld_top h_y T.cl_Ratio T.na_Ratio_top ?_⟩
      refine ⟨_, _, rfl, rfl, cmul hpre.1.2.1 hpre.2.2.2, ?_⟩
      intro p_11 d_14 n_15 n_16 _
      refine ⟨p_11, d_14, _, _, rfl, upd_same, fun H_10 h_13 k_17 => ⟨rfl, ?_⟩⟩
      have s_12 := Same.made n_15 n_16 k_17
      exact leafR (u := ((x_t * y_b), (x_b * y_t))) k s_12 h_13 (by unfold m_over; rw [if_neg c_1]; try rfl)
noncomputable def sp_is_less (C : Addr) : Sp := fun vs H Q _ => ∃ (x_p : Addr) (x_t x_b : Int) (y_p : Addr) (y_t y_b : Int), vs = [.ref x_p, .ref y_p] ∧ RatAt C H x_p x_t x_b ∧ RatAt C H y_p y_t y_b ∧ (RB x_t x_b ∧ RB y_t y_b) ∧ ∀ H' : Hp, Same H H' → Q (.bl (m_is_less x_t x_b y_t y_b)) H'
theorem bd_is_less (T : Txt K mg) : Binds K T.fd_is_less ["x", "y"] [] := T.F_is_less.binds (ps := ["x", "y"]) fun _ _ _ _ _ _ => on2 fun _ _ => rfl
theorem ok_is_less (T : Txt K mg) : FnOk P w K mg base CX0 1 T.f_is_less T.fd_is_less ["x", "y"] (sp_is_less T.a_Ratio) := by
  refine T.F_is_less.ok sc_is_less (fun vs H Q E h => ?_) (fun cdv A outer s H vs Q E hr h => ?_)
  · obtain ⟨x_p, x_t, x_b, y_p, y_t, y_b, rfl, _⟩ := h
    rfl
  · obtain ⟨x_p, x_t, x_b, y_p, y_t, y_b, rfl, h_x, h_y, hpre, k⟩ := h
    refine ⟨_, (pss_one (ps_ret (pe_cmpR op_lt (pe_op op_mulB (pe_fld (pv 0) rfl) (pe_fld (pv 1) rfl)) (pe_op op_mulB (pe_fld (pv 1) rfl) (pe_fld (pv 0) rfl)) (nomark _)))), ?_⟩
    refine ⟨_, rfl, fld_top h_x T.cl_Ratio T.na_Ratio_top ?_⟩
    refine ⟨_, rfl, fld_bottom h_y T.cl_Ratio T.na_Ratio_bottom ?_⟩
    refine ⟨_, _, rfl, rfl, cmul (m := 8000) (n := 8000) (by first | exact hpre.1.2.2 | exact hpre.2.2.2) (by first | exact hpre.2.2.1 | exact hpre.1.2.1), _, rfl, fld_top h_y T.cl_Ratio T.na_Ratio_top ?_⟩
    refine ⟨_, rfl, fld_bottom h_x T.cl_Ratio T.na_Ratio_bottom ?_⟩
    refine ⟨_, _, rfl, rfl, cmul (m := 8000) (n := 8000) (by first | exact hpre.1.2.2 | exact hpre.2.2.2) (by first | exact hpre.2.2.1 | exact hpre.1.2.1), _, _, rfl, rfl, ?_⟩
    exact leaf k Same.refl2 (congrArg V.bl (rfl))
noncomputable def sp_fits_width : Sp := fun vs H Q _ => ∃ (c : Int) (bits : Int), vs = [.int c, .int bits] ∧ (True) ∧ ∀ H' : Hp, Same H H' → Q (.bl (m_fits_width c bits)) H'
theorem bd_fits_width (T : Txt K mg) : Binds K T.fd_fits_width ["c", "bits"] [] := T.F_fits_width.binds (ps := ["c", "bits"]) fun _ _ _ _ _ _ => on2 fun _ _ => rfl
theorem ok_fits_width (T : Txt K mg) : FnOk P w K mg base CX0 2 T.f_fits_width T.fd_fits_width ["c", "bits"] sp_fits_width := by
  refine T.F_fits_width.ok sc_fits_width (fun vs H Q E h => ?_) (fun cdv A outer s H vs Q E hr h => ?_)
  · obtain ⟨c, bits, rfl, _⟩ := h
    rfl
  · obtain ⟨c, bits, rfl, hpre, k⟩ := h
    refine ⟨_, (pss_one (ps_ret (pe_chain op_le op_lt pe_int (pv 1) (pe_op op_shlB pe_int (pe_call (ok_width_of T) (hr.mono (by decide)) rfl T.m_width_of T.F_width_of.kp (bd_width_of T) .nil pass0 (pa_cons (pv 0) pa_nil)))))), ?_⟩
    refine ⟨_, rfl, _, _, rfl, rfl, _, rfl, ?_⟩
    refine iteB (fun c_1 => ?_) (fun c_1 => ?_)
    · replace c_1 : ((0) ≤ bits) := of_decide_eq_true c_1
      refine ⟨_, rfl, _, rfl, trivial, fun H_2 s_3 => ?_⟩
      refine ⟨_, _, rfl, rfl, cshl (width_nn c) (m := 1) (by decide) (by have := width_lt c; omega), _, _, rfl, rfl, ?_⟩
      exact leaf k s_3 (congrArg V.bl (by unfold m_fits_width; rw [if_pos c_1]; try rfl))
    · replace c_1 : ¬ ((0) ≤ bits) := of_decide_eq_false c_1
      exact leaf k Same.refl2 (congrArg V.bl (by unfold m_fits_width; rw [if_neg c_1]; try rfl))
noncomputable def sp_is_good : Sp := fun vs H Q _ => ∃ (c : Int) (r : Int), vs = [.int c, .int r] ∧ (m_is_format c = true) ∧ ∀ H' : Hp, Same H H' → Q (.bl (m_is_good c r)) H'
theorem bd_is_good (T : Txt K mg) : Binds K T.fd_is_good ["c", "r"] [] := T.F_is_good.binds (ps := ["c", "r"]) fun _ _ _ _ _ _ => on2 fun _ _ => rfl
theorem ok_is_good (T : Txt K mg) : FnOk P w K mg base CX0 4 T.f_is_good T.fd_is_good ["c", "r"] sp_is_good := by
  refine T.F_is_good.ok sc_is_good (fun vs H Q E h => ?_) (fun cdv A outer s H vs Q E hr h => ?_)
  · obtain ⟨c, r, rfl, _⟩ := h
    rfl
  · obtain ⟨c, r, rfl, hpre, k⟩ := h
    refine ⟨_, (pss_cons (ps_if (pt_not (pt_val (pe_call (ok_fits_width T) (hr.mono (by decide)) rfl T.m_fits_width T.F_fits_width.kp (bd_fits_width T) .nil pass0 (pa_cons (pv 0) (pa_cons (pv 1) pa_nil))))) (pss_one (ps_ret pe_bl)) pss_nil)
      (pss_cons (ps_set (i := 2) sc_is_good.nd rfl (Or.inl rfl) (pe_call (ok_kind_of T) (hr.mono (by decide)) rfl T.m_kind_of T.F_kind_of.kp (bd_kind_of T) .nil pass0 (pa_cons (pv 0) pa_nil)))
      (pss_cons (ps_if (pt_cmpR op_eqI (pv 2) (pe_globE rfl T.c_TRUTH) (nomark _)) (pss_one (ps_ret (pe_cmpR op_le (pv 1) pe_int (nomark _)))) pss_nil)
      (pss_cons (ps_if (pt_cmpR op_eqI (pv 2) (pe_globE rfl T.c_FLOAT) (nomark _)) (pss_one (ps_ret (pe_and (pe_cmpR op_neI (pv 1) (pe_call (ok_sign_bit T) (hr.mono (by decide)) rfl T.m_sign_bit T.F_sign_bit.kp (bd_sign_bit T) .nil pass0 (pa_cons (pv 0) pa_nil)) (nomark _)) (pe_one (pe_cmpR op_lt (pe_op op_mod (pv 1) (pe_call (ok_sign_bit T) (hr.mono (by decide)) rfl T.m_sign_bit T.F_sign_bit.kp (bd_sign_bit T) .nil pass0 (pa_cons (pv 0) pa_nil))) (pe_call (ok_infinity_raw T) (hr.mono (by decide)) rfl T.m_infinity_raw T.F_infinity_raw.kp (bd_infinity_raw T) .nil pass0 (pa_cons (pv 0) pa_nil)) (nomark _)))))) pss_nil)
      (pss_one (ps_ret pe_bl)))))), ?_⟩
    refine ⟨_, rfl, _, rfl, _, _, rfl, trivial, fun H_1 s_2 => ?_⟩
    refine ⟨_, rfl, ?_⟩
    refine iteB (fun c_3 => ?_) (fun c_3 => ?_)
    · replace c_3 : ¬ ((m_fits_width c r) = true) := ne_true_of_eq_false (not_t c_3)
      exact leaf k s_2 (congrArg V.bl (by unfold m_is_good; rw [if_neg c_3]; try rfl))
    · replace c_3 : ((m_fits_width c r) = true) := (not_f c_3)
      refine ⟨_, rfl, _, rfl, trivial, fun H_4 s_5 => ?_⟩
      refine ⟨_, rfl, _, _, rfl, rfl, _, rfl, ?_⟩
      refine iteB (fun c_6 => ?_) (fun c_6 => ?_)
      · replace c_6 : ((m_kind_of c) = (0)) := of_decide_eq_true c_6
        refine ⟨_, rfl, _, _, rfl, rfl, ?_⟩
        exact leaf k (Same.trans s_2 s_5) (congrArg V.bl (by unfold m_is_good; rw [if_pos c_3, if_pos c_6]; try rfl))
      · replace c_6 : ¬ ((m_kind_of c) = (0)) := of_decide_eq_false c_6
        refine ⟨_, rfl, _, _, rfl, rfl, _, rfl, ?_⟩
        refine iteB (fun c_7 => ?_) (fun c_7 => ?_)
        · replace c_7 : ((m_kind_of c) = (3)) := of_decide_eq_true c_7
          refine ⟨_, rfl, _, rfl, _, rfl, (isf_pos hpre), fun H_8 s_9 => ?_⟩
          refine ⟨_, _, rfl, rfl, _, rfl, ?_⟩
          refine iteB (fun c_10 => ?_) (fun c_10 => ?_)
          · replace c_10 : (¬ r = (m_sign_bit c)) := of_decide_eq_true c_10
            refine ⟨_, rfl, _, rfl, _, rfl, (isf_pos hpre), fun H_11 s_12 => ?_⟩
            refine ⟨_, _, rfl, rfl, (sign_pos c), _, rfl, _, rfl, (isf_float hpre (by assumption)), fun H_13 s_14 => ?_⟩
            refine ⟨_, _, rfl, rfl, ?_⟩
            exact leaf k (Same.trans (Same.trans (Same.trans (Same.trans s_2 s_5) s_9) s_12) s_14) (congrArg V.bl (by unfold m_is_good; rw [if_pos c_3, if_neg c_6, if_pos c_7, if_pos c_10]; try rfl))
          · replace c_10 : ¬ (¬ r = (m_sign_bit c)) := of_decide_eq_false c_10
            exact leaf k (Same.trans (Same.trans s_2 s_5) s_9) (congrArg V.bl (by unfold m_is_good; rw [if_pos c_3, if_neg c_6, if_pos c_7, if_neg c_10]; try rfl))
        · replace c_7 : ¬ ((m_kind_of c) = (3)) := of_decide_eq_false c_7
          exact leaf k (Same.trans s_2 s_5) (congrArg V.bl (by unfold m_is_good; rw [if_pos c_3, if_neg c_6, if_neg c_7]; try rfl))
noncomputable def sp_is_raw : Sp := fun vs H Q _ => ∃ (c : Int) (r : Int), vs = [.int c, .int r] ∧ (True) ∧ ∀ H' : Hp, Same H H' → Q (.bl (m_is_raw c r)) H'
theorem bd_is_raw (T : Txt K mg) : Binds K T.fd_is_raw ["c", "r"] [] := T.F_is_raw.binds (ps := ["c", "r"]) fun _ _ _ _ _ _ => on2 fun _ _ => rfl
theorem ok_is_raw (T : Txt K mg) : FnOk P w K mg base CX0 5 T.f_is_raw T.fd_is_raw ["c", "r"] sp_is_raw := by
  refine T.F_is_raw.ok sc_is_raw (fun vs H Q E h => ?_) (fun cdv A outer s H vs Q E hr h => ?_)
  · obtain ⟨c, r, rfl, _⟩ := h
    rfl
  · obtain ⟨c, r, rfl, hpre, k⟩ := h
    refine ⟨_, (pss_one (ps_ret (pe_and (pe_call (ok_is_format T) (hr.mono (by decide)) rfl T.m_is_format T.F_is_format.kp (bd_is_format T) .nil pass0 (pa_cons (pv 0) pa_nil)) (pe_one (pe_call (ok_is_good T) (hr.mono (by decide)) rfl T.m_is_good T.F_is_good.kp (bd_is_good T) .nil pass0 (pa_cons (pv 0) (pa_cons (pv 1) pa_nil))))))), ?_⟩
    refine ⟨_, rfl, _, rfl, trivial, fun H_1 s_2 => ?_⟩
    refine ⟨_, rfl, ?_⟩
    refine iteB (fun c_3 => ?_) (fun c_3 => ?_)
    · replace c_3 : ((m_is_format c) = true) := c_3
      refine ⟨_, rfl, _, rfl, _, _, rfl, (by assumption), fun H_4 s_5 => ?_⟩
      exact leaf k (Same.trans s_2 s_5) (congrArg V.bl (by unfold m_is_raw; rw [if_pos c_3]; try rfl))
    · replace c_3 : ¬ ((m_is_format c) = true) := ne_true_of_eq_false c_3
      exact leaf k s_2 (congrArg V.bl (by unfold m_is_raw; rw [if_neg c_3]; try rfl))
noncomputable def sp_steps_of : Sp := fun vs H Q _ => ∃ (c : Int) (r : Int), vs = [.int c, .int r] ∧ (m_is_format c = true) ∧ ∀ H' : Hp, Same H H' → Q (.int (m_steps_of c r)) H'
theorem bd_steps_of (T : Txt K mg) : Binds K T.fd_steps_of ["c", "r"] [] := T.F_steps_of.binds (ps := ["c", "r"]) fun _ _ _ _ _ _ => on2 fun _ _ => rfl
theorem ok_steps_of (T : Txt K mg) : FnOk P w K mg base CX0 3 T.f_steps_of T.fd_steps_of ["c", "r"] sp_steps_of := by
  refine T.F_steps_of.ok sc_steps_of (fun vs H Q E h => ?_) (fun cdv A outer s H vs Q E hr h => ?_)
  · obtain ⟨c, r, rfl, _⟩ := h
    rfl
  · obtain ⟨c, r, rfl, hpre, k⟩ := h
    refine ⟨_, (pss_cons (ps_if (PW.pt (pw_and (pt_cmpR op_eqI (pe_call (ok_kind_of T) (hr.mono (by decide)) rfl T.m_kind_of T.F_kind_of.kp (bd_kind_of T) .nil pass0 (pa_cons (pv 0) pa_nil)) (pe_globE rfl T.c_SIGNED) (nomark _)) (pw_and1 (pt_cmpR op_ge (pv 1) (pe_call (ok_sign_bit T) (hr.mono (by decide)) rfl T.m_sign_bit T.F_sign_bit.kp (bd_sign_bit T) .nil pass0 (pa_cons (pv 0) pa_nil)) (nomark _))))) (pss_one (ps_ret (pe_op op_sub (pv 1) (pe_op op_shlB pe_int (pe_call (ok_width_of T) (hr.mono (by decide)) rfl T.m_width_of T.F_width_of.kp (bd_width_of T) .nil pass0 (pa_cons (pv 0) pa_nil)))))) pss_nil)
      (pss_one (ps_ret (pv 1)))), ?_⟩
    refine ⟨_, rfl, _, rfl, trivial, fun H_1 s_2 => ?_⟩
    refine ⟨_, _, rfl, rfl, _, rfl, ?_⟩
    refine iteB (fun c_3 => ?_) (fun c_3 => ?_)
    · replace c_3 : ((m_kind_of c) = (1)) := of_decide_eq_true c_3
      refine ⟨_, rfl, _, rfl, _, rfl, (isf_pos hpre), fun H_4 s_5 => ?_⟩
      refine ⟨_, _, rfl, rfl, _, rfl, ?_⟩
      refine iteB (fun c_6 => ?_) (fun c_6 => ?_)
      · replace c_6 : ((m_sign_bit c) ≤ r) := of_decide_eq_true c_6
        refine ⟨_, rfl, _, rfl, _, rfl, trivial, fun H_7 s_8 => ?_⟩
        refine ⟨_, _, rfl, rfl, cshl (width_nn c) (m := 1) (by decide) (by have := width_lt c; omega), _, _, rfl, rfl, ?_⟩
        exact leaf k (Same.trans (Same.trans s_2 s_5) s_8) (congrArg V.int (by unfold m_steps_of; rw [if_pos c_3, if_pos c_6]; try rfl))
      · replace c_6 : ¬ ((m_sign_bit c) ≤ r) := of_decide_eq_false c_6
        refine ⟨_, rfl, ?_⟩
        exact leaf k (Same.trans s_2 s_5) (congrArg V.int (by unfold m_steps_of; rw [if_pos c_3, if_neg c_6]; try rfl))
    · replace c_3 : ¬ ((m_kind_of c) = (1)) := of_decide_eq_false c_3
      refine iteF ?_
      refine ⟨_, rfl, ?_⟩
      exact leaf k s_2 (congrArg V.int (by unfold m_steps_of; rw [if_neg c_3]; try rfl))
noncomputable def sp_float_worth (C : Addr) : Sp := fun vs H Q _ => ∃ (c : Int) (r : Int), vs = [.int c, .int r] ∧ (m_is_format c = true ∧ m_kind_of c = 3) ∧ ∀ (H' : Hp) (p : Addr), Same H H' → RatAt C H' p (m_float_worth c r).1 (m_float_worth c r).2 → Q (.ref p) H'
theorem bd_float_worth (T : Txt K mg) : Binds K T.fd_float_worth ["c", "r"] [] := T.F_float_worth.binds (ps := ["c", "r"]) fun _ _ _ _ _ _ => on2 fun _ _ => rfl
theorem ok_float_worth (T : Txt K mg) : FnOk P w K mg base CX0 3 T.f_float_worth T.fd_float_worth ["c", "r"] (sp_float_worth T.a_Ratio) := by
  refine T.F_float_worth.ok sc_float_worth (fun vs H Q E h => ?_) (fun cdv A outer s H vs Q E hr h => ?_)
  · obtain ⟨c, r, rfl, _⟩ := h
    rfl
  · obtain ⟨c, r, rfl, hpre, k⟩ := h
    have W := isf_float hpre.1 hpre.2
    have fb := fbits W
    have lp := lplaces W
    have xl := expo_lt r W
    refine ⟨_, (pss_cons (ps_set (i := 2) sc_float_worth.nd rfl (Or.inl rfl) (pe_op op_mod (pv 1) (pe_call (ok_sign_bit T) (hr.mono (by decide)) rfl T.m_sign_bit T.F_sign_bit.kp (bd_sign_bit T) .nil pass0 (pa_cons (pv 0) pa_nil))))
      (pss_cons (ps_set (i := 3) sc_float_worth.nd rfl (Or.inl rfl) (pe_dgetK (hu_of hr) (pe_globE rfl T.c_FRACTION_BITS) (pe_call (ok_width_of T) (hr.mono (by decide)) rfl T.m_width_of T.F_width_of.kp (bd_width_of T) .nil pass0 (pa_cons (pv 0) pa_nil)) (fun _ _ => rfl)))
      (pss_cons (ps_set (i := 4) sc_float_worth.nd rfl (Or.inl rfl) (pe_op op_mod (pv 2) (pe_op op_shlB pe_int (pv 3))))
      (pss_cons (ps_set (i := 5) sc_float_worth.nd rfl (Or.inl rfl) (pe_un un_neg (pe_dgetK (hu_of hr) (pe_globE rfl T.c_LOWEST_PLACES) (pe_call (ok_width_of T) (hr.mono (by decide)) rfl T.m_width_of T.F_width_of.kp (bd_width_of T) .nil pass0 (pa_cons (pv 0) pa_nil)) (fun _ _ => rfl))))
      (pss_cons (ps_set (i := 6) sc_float_worth.nd rfl (Or.inl rfl) (pe_op op_shr (pv 2) (pv 3)))
      (pss_cons (ps_if (pt_cmpR op_gt (pv 6) pe_int (nomark _)) (pss_cons (ps_aug (i := 4) sc_float_worth.nd rfl (Or.inl rfl) (pe_op op_shlB pe_int (pv 3)) (pip_of iop_add))
      (pss_one (ps_aug (i := 5) sc_float_worth.nd rfl (Or.inl rfl) (pe_op op_sub (pv 6) pe_int) (pip_of iop_add)))) pss_nil)
      (pss_cons (ps_if (pt_cmpR op_gt (pv 1) (pv 2) (nomark _)) (pss_one (ps_set (i := 4) sc_float_worth.nd rfl (Or.inl rfl) (pe_un un_neg (pv 4)))) pss_nil)
      (pss_cons (ps_if (pt_cmpR op_ge (pv 5) pe_int (nomark _)) (pss_one (ps_ret (pe_make T.mk_Ratio (ok_Ratio_init T) (hr.mono (by decide)) rfl T.m_Ratio (bd_Ratio_init T) .nil pass0 (pa_cons (pe_op op_shlB (pv 4) (pv 5)) (pa_cons pe_int pa_nil))))) pss_nil)
      (pss_one (ps_ret (pe_make T.mk_Ratio (ok_Ratio_init T) (hr.mono (by decide)) rfl T.m_Ratio (bd_Ratio_init T) .nil pass0 (pa_cons (pv 4) (pa_cons (pe_op op_shlB pe_int (pe_un un_neg (pv 5))) pa_nil))))))))))))), ?_⟩
    refine ⟨_, rfl, _, rfl, _, rfl, (isf_pos hpre.1), fun H_1 s_2 => ?_⟩
    refine ⟨_, _, rfl, rfl, (sign_pos c), _, rfl, _, rfl, trivial, fun H_3 s_4 => ?_⟩
    refine ⟨T.a_FRACTION_BITS, .int (dictI [(32, 23), (64, 52)] (m_width_of c)), rfl, _, _, T.q_FRACTION_BITS, rfl, (by rcases W with h | h <;> rw [h] <;> rfl), _, rfl, _, rfl, _, _, rfl, rfl, cshl fb.1 (m := 1) (by decide) (by omega), _, _, rfl, rfl, (one_pos _), _, rfl, _, rfl, trivial, fun H_5 s_6 => ?_⟩
    refine ⟨T.a_LOWEST_PLACES, .int (dictI [(32, 149), (64, 1074)] (m_width_of c)), rfl, _, _, T.q_LOWEST_PLACES, rfl, (by rcases W with h | h <;> rw [h] <;> rfl), _, rfl, _, rfl, _, rfl, _, _, rfl, rfl, fb.1, _, rfl, _, _, rfl, rfl, _, rfl, ?_⟩
    refine iteB (fun c_7 => ?_) (fun c_7 => ?_)
    · replace c_7 : ((0) < ((r % (m_sign_bit c)) / 2 ^ ((dictI [(32, 23), (64, 52)] (m_width_of c)) : Int).toNat)) := of_decide_eq_true c_7
      refine ⟨_, rfl, _, rfl, _, _, rfl, rfl, cshl fb.1 (m := 1) (by decide) (by omega), _, _, rfl, rfl, _, rfl, _, rfl, _, _, rfl, rfl, _, _, rfl, rfl, _, rfl, _, rfl, _, _, rfl, rfl, _, rfl, ?_⟩
      refine iteB (fun c_8 => ?_) (fun c_8 => ?_)
      · replace c_8 : ((r % (m_sign_bit c)) < r) := of_decide_eq_true c_8
        refine ⟨_, rfl, _, rfl, _, rfl, _, _, rfl, rfl, _, rfl, ?_⟩
        refine iteB (fun c_9 => ?_) (fun c_9 => ?_)
        · replace c_9 : ((0) ≤ ((-(dictI [(32, 149), (64, 1074)] (m_width_of c))) + (((r % (m_sign_bit c)) / 2 ^ ((dictI [(32, 23), (64, 52)] (m_width_of c)) : Int).toNat) - (1)))) := of_decide_eq_true c_9
          refine ⟨_, rfl, _, rfl, _, _, rfl, rfl, cshl (by assumption) (m := 54) (by first | exact (frac_sz _ W).2.neg | exact (frac_sz _ W).2 | exact (frac_sz _ W).1.neg.mono (by decide) | exact (frac_sz _ W).1.mono (by decide)) (by omega), ?_⟩
          intro p_11 d_14 n_15 n_16 _
          refine ⟨p_11, d_14, _, _, rfl, upd_same, fun H_10 h_13 k_17 => ⟨rfl, ?_⟩⟩
          have s_12 := Same.made n_15 n_16 k_17
          exact leafR (u := (((-(((r % (m_sign_bit c)) % ((1) * 2 ^ ((dictI [(32, 23), (64, 52)] (m_width_of c)) : Int).toNat)) + ((1) * 2 ^ ((dictI [(32, 23), (64, 52)] (m_width_of c)) : Int).toNat))) * 2 ^ (((-(dictI [(32, 149), (64, 1074)] (m_width_of c))) + (((r % (m_sign_bit c)) / 2 ^ ((dictI [(32, 23), (64, 52)] (m_width_of c)) : Int).toNat) - (1))) : Int).toNat), (1))) k (Same.trans (Same.trans (Same.trans s_2 s_4) s_6) s_12) h_13 (by unfold m_float_worth; rw [if_pos c_7, if_pos c_8, if_pos c_9]; try rfl)
        · replace c_9 : ¬ ((0) ≤ ((-(dictI [(32, 149), (64, 1074)] (m_width_of c))) + (((r % (m_sign_bit c)) / 2 ^ ((dictI [(32, 23), (64, 52)] (m_width_of c)) : Int).toNat) - (1)))) := of_decide_eq_false c_9
          refine ⟨_, rfl, _, rfl, _, rfl, _, _, rfl, rfl, cshl (by omega) (m := 1) (by decide) (by omega), ?_⟩
          intro p_19 d_22 n_23 n_24 _
          refine ⟨p_19, d_22, _, _, rfl, upd_same, fun H_18 h_21 k_25 => ⟨rfl, ?_⟩⟩
          have s_20 := Same.made n_23 n_24 k_25
          exact leafR (u := ((-(((r % (m_sign_bit c)) % ((1) * 2 ^ ((dictI [(32, 23), (64, 52)] (m_width_of c)) : Int).toNat)) + ((1) * 2 ^ ((dictI [(32, 23), (64, 52)] (m_width_of c)) : Int).toNat))), ((1) * 2 ^ ((-((-(dictI [(32, 149), (64, 1074)] (m_width_of c))) + (((r % (m_sign_bit c)) / 2 ^ ((dictI [(32, 23), (64, 52)] (m_width_of c)) : Int).toNat) - (1)))) : Int).toNat))) k (Same.trans (Same.trans (Same.trans s_2 s_4) s_6) s_20) h_21 (by unfold m_float_worth; rw [if_pos c_7, if_pos c_8, if_neg c_9]; try rfl)
      · replace c_8 : ¬ ((r % (m_sign_bit c)) < r) := of_decide_eq_false c_8
        refine ⟨_, rfl, _, _, rfl, rfl, _, rfl, ?_⟩
        refine iteB (fun c_26 => ?_) (fun c_26 => ?_)
        · replace c_26 : ((0) ≤ ((-(dictI [(32, 149), (64, 1074)] (m_width_of c))) + (((r % (m_sign_bit c)) / 2 ^ ((dictI [(32, 23), (64, 52)] (m_width_of c)) : Int).toNat) - (1)))) := of_decide_eq_true c_26
          refine ⟨_, rfl, _, rfl, _, _, rfl, rfl, cshl (by assumption) (m := 54) (by first | exact (frac_sz _ W).2.neg | exact (frac_sz _ W).2 | exact (frac_sz _ W).1.neg.mono (by decide) | exact (frac_sz _ W).1.mono (by decide)) (by omega), ?_⟩
          intro p_28 d_31 n_32 n_33 _
          refine ⟨p_28, d_31, _, _, rfl, upd_same, fun H_27 h_30 k_34 => ⟨rfl, ?_⟩⟩
          have s_29 := Same.made n_32 n_33 k_34
          exact leafR (u := (((((r % (m_sign_bit c)) % ((1) * 2 ^ ((dictI [(32, 23), (64, 52)] (m_width_of c)) : Int).toNat)) + ((1) * 2 ^ ((dictI [(32, 23), (64, 52)] (m_width_of c)) : Int).toNat)) * 2 ^ (((-(dictI [(32, 149), (64, 1074)] (m_width_of c))) + (((r % (m_sign_bit c)) / 2 ^ ((dictI [(32, 23), (64, 52)] (m_width_of c)) : Int).toNat) - (1))) : Int).toNat), (1))) k (Same.trans (Same.trans (Same.trans s_2 s_4) s_6) s_29) h_30 (by unfold m_float_worth; rw [if_pos c_7, if_neg c_8, if_pos c_26]; try rfl)
        · replace c_26 : ¬ ((0) ≤ ((-(dictI [(32, 149), (64, 1074)] (m_width_of c))) + (((r % (m_sign_bit c)) / 2 ^ ((dictI [(32, 23), (64, 52)] (m_width_of c)) : Int).toNat) - (1)))) := of_decide_eq_false c_26
          refine ⟨_, rfl, _, rfl, _, rfl, _, _, rfl, rfl, cshl (by omega) (m := 1) (by decide) (by omega), ?_⟩
          intro p_36 d_39 n_40 n_41 _
          refine ⟨p_36, d_39, _, _, rfl, upd_same, fun H_35 h_38 k_42 => ⟨rfl, ?_⟩⟩
          have s_37 := Same.made n_40 n_41 k_42
          exact leafR (u := ((((r % (m_sign_bit c)) % ((1) * 2 ^ ((dictI [(32, 23), (64, 52)] (m_width_of c)) : Int).toNat)) + ((1) * 2 ^ ((dictI [(32, 23), (64, 52)] (m_width_of c)) : Int).toNat)), ((1) * 2 ^ ((-((-(dictI [(32, 149), (64, 1074)] (m_width_of c))) + (((r % (m_sign_bit c)) / 2 ^ ((dictI [(32, 23), (64, 52)] (m_width_of c)) : Int).toNat) - (1)))) : Int).toNat))) k (Same.trans (Same.trans (Same.trans s_2 s_4) s_6) s_37) h_38 (by unfold m_float_worth; rw [if_pos c_7, if_neg c_8, if_neg c_26]; try rfl)
    · replace c_7 : ¬ ((0) < ((r % (m_sign_bit c)) / 2 ^ ((dictI [(32, 23), (64, 52)] (m_width_of c)) : Int).toNat)) := of_decide_eq_false c_7
      refine ⟨_, rfl, _, rfl, _, _, rfl, rfl, _, rfl, ?_⟩
      refine iteB (fun c_43 => ?_) (fun c_43 => ?_)
      · replace c_43 : ((r % (m_sign_bit c)) < r) := of_decide_eq_true c_43
        refine ⟨_, rfl, _, rfl, _, rfl, _, _, rfl, rfl, _, rfl, ?_⟩
        refine iteB (fun c_44 => ?_) (fun c_44 => ?_)
        · replace c_44 : ((0) ≤ (-(dictI [(32, 149), (64, 1074)] (m_width_of c)))) := of_decide_eq_true c_44
          refine ⟨_, rfl, _, rfl, _, _, rfl, rfl, cshl (by assumption) (m := 54) (by first | exact (frac_sz _ W).2.neg | exact (frac_sz _ W).2 | exact (frac_sz _ W).1.neg.mono (by decide) | exact (frac_sz _ W).1.mono (by decide)) (by omega), ?_⟩
          intro p_46 d_49 n_50 n_51 _
          refine ⟨p_46, d_49, _, _, rfl, upd_same, fun H_45 h_48 k_52 => ⟨rfl, ?_⟩⟩
          have s_47 := Same.made n_50 n_51 k_52
          exact leafR (u := (((-((r % (m_sign_bit c)) % ((1) * 2 ^ ((dictI [(32, 23), (64, 52)] (m_width_of c)) : Int).toNat))) * 2 ^ ((-(dictI [(32, 149), (64, 1074)] (m_width_of c))) : Int).toNat), (1))) k (Same.trans (Same.trans (Same.trans s_2 s_4) s_6) s_47) h_48 (by unfold m_float_worth; rw [if_neg c_7, if_pos c_43, if_pos c_44]; try rfl)
        · replace c_44 : ¬ ((0) ≤ (-(dictI [(32, 149), (64, 1074)] (m_width_of c)))) := of_decide_eq_false c_44
          refine ⟨_, rfl, _, rfl, _, rfl, _, _, rfl, rfl, cshl (by omega) (m := 1) (by decide) (by omega), ?_⟩
          intro p_54 d_57 n_58 n_59 _
          refine ⟨p_54, d_57, _, _, rfl, upd_same, fun H_53 h_56 k_60 => ⟨rfl, ?_⟩⟩
          have s_55 := Same.made n_58 n_59 k_60
          exact leafR (u := ((-((r % (m_sign_bit c)) % ((1) * 2 ^ ((dictI [(32, 23), (64, 52)] (m_width_of c)) : Int).toNat))), ((1) * 2 ^ ((-(-(dictI [(32, 149), (64, 1074)] (m_width_of c)))) : Int).toNat))) k (Same.trans (Same.trans (Same.trans s_2 s_4) s_6) s_55) h_56 (by unfold m_float_worth; rw [if_neg c_7, if_pos c_43, if_neg c_44]; try rfl)
      · replace c_43 : ¬ ((r % (m_sign_bit c)) < r) := of_decide_eq_false c_43
        refine ⟨_, rfl, _, _, rfl, rfl, _, rfl, ?_⟩
        refine iteB (fun c_61 => ?_) (fun c_61 => ?_)
        · replace c_61 : ((0) ≤ (-(dictI [(32, 149), (64, 1074)] (m_width_of c)))) := of_decide_eq_true c_61
          refine ⟨_, rfl, _, rfl, _, _, rfl, rfl, cshl (by assumption) (m := 54) (by first | exact (frac_sz _ W).2.neg | exact (frac_sz _ W).2 | exact (frac_sz _ W).1.neg.mono (by decide) | exact (frac_sz _ W).1.mono (by decide)) (by omega), ?_⟩
          intro p_63 d_66 n_67 n_68 _
          refine ⟨p_63, d_66, _, _, rfl, upd_same, fun H_62 h_65 k_69 => ⟨rfl, ?_⟩⟩
          have s_64 := Same.made n_67 n_68 k_69
          exact leafR (u := ((((r % (m_sign_bit c)) % ((1) * 2 ^ ((dictI [(32, 23), (64, 52)] (m_width_of c)) : Int).toNat)) * 2 ^ ((-(dictI [(32, 149), (64, 1074)] (m_width_of c))) : Int).toNat), (1))) k (Same.trans (Same.trans (Same.trans s_2 s_4) s_6) s_64) h_65 (by unfold m_float_worth; rw [if_neg c_7, if_neg c_43, if_pos c_61]; try rfl)
        · replace c_61 : ¬ ((0) ≤ (-(dictI [(32, 149), (64, 1074)] (m_width_of c)))) := of_decide_eq_false c_61
          refine ⟨_, rfl, _, rfl, _, rfl, _, _, rfl, rfl, cshl (by omega) (m := 1) (by decide) (by omega), ?_⟩
          intro p_71 d_74 n_75 n_76 _
          refine ⟨p_71, d_74, _, _, rfl, upd_same, fun H_70 h_73 k_77 => ⟨rfl, ?_⟩⟩
          have s_72 := Same.made n_75 n_76 k_77
          exact leafR (u := (((r % (m_sign_bit c)) % ((1) * 2 ^ ((dictI [(32, 23), (64, 52)] (m_width_of c)) : Int).toNat)), ((1) * 2 ^ ((-(-(dictI [(32, 149), (64, 1074)] (m_width_of c)))) : Int).toNat))) k (Same.trans (Same.trans (Same.trans s_2 s_4) s_6) s_72) h_73 (by unfold m_float_worth; rw [if_neg c_7, if_neg c_43, if_neg c_61]; try rfl)
noncomputable def sp_worth_of (C : Addr) : Sp := fun vs H Q _ => ∃ (c : Int) (r : Int), vs = [.int c, .int r] ∧ (m_is_format c = true) ∧ ∀ (H' : Hp) (p : Addr), Same H H' → RatAt C H' p (m_worth_of c r).1 (m_worth_of c r).2 → Q (.ref p) H'
theorem bd_worth_of (T : Txt K mg) : Binds K T.fd_worth_of ["c", "r"] [] := T.F_worth_of.binds (ps := ["c", "r"]) fun _ _ _ _ _ _ => on2 fun _ _ => rfl
theorem ok_worth_of (T : Txt K mg) : FnOk P w K mg base CX0 4 T.f_worth_of T.fd_worth_of ["c", "r"] (sp_worth_of T.a_Ratio) := by
  refine T.F_worth_of.ok sc_worth_of (fun vs H Q E h => ?_) (fun cdv A outer s H vs Q E hr h => ?_)
  · obtain ⟨c, r, rfl, _⟩ := h
    rfl
  · obtain ⟨c, r, rfl, hpre, k⟩ := h
    refine ⟨_, (pss_cons (ps_if (pt_cmpR op_eqI (pe_call (ok_kind_of T) (hr.mono (by decide)) rfl T.m_kind_of T.F_kind_of.kp (bd_kind_of T) .nil pass0 (pa_cons (pv 0) pa_nil)) (pe_globE rfl T.c_FLOAT) (nomark _)) (pss_one (ps_ret (pe_call (ok_float_worth T) (hr.mono (by decide)) rfl T.m_float_worth T.F_float_worth.kp (bd_float_worth T) .nil pass0 (pa_cons (pv 0) (pa_cons (pv 1) pa_nil))))) pss_nil)
      (pss_one (ps_ret (pe_make T.mk_Ratio (ok_Ratio_init T) (hr.mono (by decide)) rfl T.m_Ratio (bd_Ratio_init T) .nil pass0 (pa_cons (pe_call (ok_steps_of T) (hr.mono (by decide)) rfl T.m_steps_of T.F_steps_of.kp (bd_steps_of T) .nil pass0 (pa_cons (pv 0) (pa_cons (pv 1) pa_nil))) (pa_cons (pe_op op_shlB pe_int (pe_call (ok_point_of T) (hr.mono (by decide)) rfl T.m_point_of T.F_point_of.kp (bd_point_of T) .nil pass0 (pa_cons (pv 0) pa_nil))) pa_nil)))))), ?_⟩
    refine ⟨_, rfl, _, rfl, trivial, fun H_1 s_2 => ?_⟩
    refine ⟨_, _, rfl, rfl, _, rfl, ?_⟩
    refine iteB (fun c_3 => ?_) (fun c_3 => ?_)
    · replace c_3 : ((m_kind_of c) = (3)) := of_decide_eq_true c_3
      refine ⟨_, rfl, _, rfl, _, _, rfl, ⟨hpre, (by assumption)⟩, fun H_4 p_6 s_5 h_7 => ?_⟩
      exact leafR (u := (m_float_worth c r)) k (Same.trans s_2 s_5) h_7 (by unfold m_worth_of; rw [if_pos c_3]; try rfl)
    · replace c_3 : ¬ ((m_kind_of c) = (3)) := of_decide_eq_false c_3
      refine ⟨_, rfl, _, rfl, _, _, rfl, hpre, fun H_8 s_9 => ?_⟩
      refine ⟨_, rfl, _, rfl, trivial, fun H_10 s_11 => ?_⟩
      refine ⟨_, _, rfl, rfl, cshl (point_nn c) (m := 1) (by decide) (by have := point_lt c; omega), ?_⟩
      intro p_13 d_16 n_17 n_18 _
      refine ⟨p_13, d_16, _, _, rfl, upd_same, fun H_12 h_15 k_19 => ⟨rfl, ?_⟩⟩
      have s_14 := Same.made n_17 n_18 k_19
      exact leafR (u := ((m_steps_of c r), ((1) * 2 ^ ((m_point_of c) : Int).toNat))) k (Same.trans (Same.trans (Same.trans s_2 s_9) s_11) s_14) h_15 (by unfold m_worth_of; rw [if_neg c_3]; try rfl)
noncomputable def sp_is_mode : Sp := fun vs H Q _ => ∃ (mode : Int), vs = [.int mode] ∧ (True) ∧ ∀ H' : Hp, Same H H' → Q (.bl (m_is_mode mode)) H'
theorem bd_is_mode (T : Txt K mg) : Binds K T.fd_is_mode ["mode"] [] := T.F_is_mode.binds (ps := ["mode"]) fun _ _ _ _ _ _ => on1 fun _ => rfl
theorem ok_is_mode (T : Txt K mg) : FnOk P w K mg base CX0 1 T.f_is_mode T.fd_is_mode ["mode"] sp_is_mode := by
  refine T.F_is_mode.ok sc_is_mode (fun vs H Q E h => ?_) (fun cdv A outer s H vs Q E hr h => ?_)
  · obtain ⟨mode, rfl, _⟩ := h
    rfl
  · obtain ⟨mode, rfl, hpre, k⟩ := h
    refine ⟨_, (pss_one (ps_ret (pe_chain op_le op_le (pe_globE rfl T.c_NEAREST_EVEN) (pv 0) (pe_globE rfl T.c_NEAREST_FAR)))), ?_⟩
    refine ⟨_, rfl, _, _, rfl, rfl, _, rfl, ?_⟩
    refine iteB (fun c_1 => ?_) (fun c_1 => ?_)
    · replace c_1 : ((0) ≤ mode) := of_decide_eq_true c_1
      refine ⟨_, _, rfl, rfl, ?_⟩
      exact leaf k Same.refl2 (congrArg V.bl (by unfold m_is_mode; rw [if_pos c_1]; try rfl))
    · replace c_1 : ¬ ((0) ≤ mode) := of_decide_eq_false c_1
      exact leaf k Same.refl2 (congrArg V.bl (by unfold m_is_mode; rw [if_neg c_1]; try rfl))
noncomputable def sp_in_steps (C : Addr) : Sp := fun vs H Q _ => ∃ (x_p : Addr) (x_t x_b : Int) (place : Int), vs = [.ref x_p, .int place] ∧ RatAt C H x_p x_t x_b ∧ (RB x_t x_b ∧ -20000 ≤ place ∧ place ≤ 20000) ∧ ∀ (H' : Hp) (p : Addr), Same H H' → RatAt C H' p (m_in_steps x_t x_b place).1 (m_in_steps x_t x_b place).2 → Q (.ref p) H'
theorem bd_in_steps (T : Txt K mg) : Binds K T.fd_in_steps ["x", "place"] [] := T.F_in_steps.binds (ps := ["x", "place"]) fun _ _ _ _ _ _ => on2 fun _ _ => rfl
theorem ok_in_steps (T : Txt K mg) : FnOk P w K mg base CX0 3 T.f_in_steps T.fd_in_steps ["x", "place"] (sp_in_steps T.a_Ratio) := by
  refine T.F_in_steps.ok sc_in_steps (fun vs H Q E h => ?_) (fun cdv A outer s H vs Q E hr h => ?_)
  · obtain ⟨x_p, x_t, x_b, place, rfl, _⟩ := h
    rfl
  · obtain ⟨x_p, x_t, x_b, place, rfl, h_x, hpre, k⟩ := h
    refine ⟨_, (pss_cons (ps_if (pt_cmpR op_ge (pv 1) pe_int (nomark _)) (pss_one (ps_ret (pe_make T.mk_Ratio (ok_Ratio_init T) (hr.mono (by decide)) rfl T.m_Ratio (bd_Ratio_init T) .nil pass0 (pa_cons (pe_callB call_abs (by rfl) T.n_abs (by decide +kernel) (pa_cons (pe_fld (pv 0) rfl) pa_nil)) (pa_cons (pe_op op_shlB (pe_fld (pv 0) rfl) (pv 1)) pa_nil))))) pss_nil)
      (pss_one (ps_ret (pe_make T.mk_Ratio (ok_Ratio_init T) (hr.mono (by decide)) rfl T.m_Ratio (bd_Ratio_init T) .nil pass0 (pa_cons (pe_op op_shlB (pe_callB call_abs (by rfl) T.n_abs (by decide +kernel) (pa_cons (pe_fld (pv 0) rfl) pa_nil)) (pe_un un_neg (pv 1))) (pa_cons (pe_fld (pv 0) rfl) pa_nil)))))), ?_⟩
    refine ⟨_, rfl, _, _, rfl, rfl, _, rfl, ?_⟩
    refine iteB (fun c_1 => ?_) (fun c_1 => ?_)
    · replace c_1 : ((0) ≤ place) := of_decide_eq_true c_1
      refine ⟨_, rfl, fld_top h_x T.cl_Ratio T.na_Ratio_top ?_⟩
      refine ⟨_, rfl, _, rfl, fld_bottom h_x T.cl_Ratio T.na_Ratio_bottom ?_⟩
      refine ⟨_, rfl, _, _, rfl, rfl, cshl (by assumption) hpre.1.2.1 (by omega), ?_⟩
      intro p_3 d_6 n_7 n_8 _
      refine ⟨p_3, d_6, _, _, rfl, upd_same, fun H_2 h_5 k_9 => ⟨rfl, ?_⟩⟩
      have s_4 := Same.made n_7 n_8 k_9
      exact leafR (u := ((absI x_t), (x_b * 2 ^ (place : Int).toNat))) k s_4 h_5 (by unfold m_in_steps; rw [if_pos c_1]; try rfl)
    · replace c_1 : ¬ ((0) ≤ place) := of_decide_eq_false c_1
      refine ⟨_, rfl, fld_top h_x T.cl_Ratio T.na_Ratio_top ?_⟩
      refine ⟨_, rfl, _, rfl, _, rfl, _, _, rfl, rfl, cshl (by omega) hpre.1.2.2.abs (by omega), _, rfl, fld_bottom h_x T.cl_Ratio T.na_Ratio_bottom ?_⟩
      intro p_11 d_14 n_15 n_16 _
      refine ⟨p_11, d_14, _, _, rfl, upd_same, fun H_10 h_13 k_17 => ⟨rfl, ?_⟩⟩
      have s_12 := Same.made n_15 n_16 k_17
      exact leafR (u := (((absI x_t) * 2 ^ ((-place) : Int).toNat), x_b)) k s_12 h_13 (by unfold m_in_steps; rw [if_neg c_1]; try rfl)
noncomputable def sp_leading_place (C : Addr) : Sp := fun vs H Q _ => ∃ (x_p : Addr) (x_t x_b : Int), vs = [.ref x_p] ∧ RatAt C H x_p x_t x_b ∧ (RB x_t x_b) ∧ ∀ H' : Hp, Same H H' → Q (.int (m_leading_place x_t x_b)) H'
theorem bd_leading_place (T : Txt K mg) : Binds K T.fd_leading_place ["x"] [] := T.F_leading_place.binds (ps := ["x"]) fun _ _ _ _ _ _ => on1 fun _ => rfl
theorem ok_leading_place (T : Txt K mg) : FnOk P w K mg base CX0 4 T.f_leading_place T.fd_leading_place ["x"] (sp_leading_place T.a_Ratio) := by
  refine T.F_leading_place.ok sc_leading_place (fun vs H Q E h => ?_) (fun cdv A outer s H vs Q E hr h => ?_)
  · obtain ⟨x_p, x_t, x_b, rfl, _⟩ := h
    rfl
  · obtain ⟨x_p, x_t, x_b, rfl, h_x, hpre, k⟩ := h
    refine ⟨_, (pss_cons (ps_set (i := 1) sc_leading_place.nd rfl (Or.inl rfl) (pe_op op_sub (pe_bm0 PySem.F.plainAttrs_int PySem.F.slot_int_bit_length PySem.F.type_int_bit_length mt_bits (pe_callB call_abs (by rfl) T.n_abs (by decide +kernel) (pa_cons (pe_fld (pv 0) rfl) pa_nil))) (pe_bm0 PySem.F.plainAttrs_int PySem.F.slot_int_bit_length PySem.F.type_int_bit_length mt_bits (pe_fld (pv 0) rfl))))
      (pss_cons (ps_set (i := 2) sc_leading_place.nd rfl (Or.inl rfl) (pe_call (ok_in_steps T) (hr.mono (by decide)) rfl T.m_in_steps T.F_in_steps.kp (bd_in_steps T) .nil pass0 (pa_cons (pv 0) (pa_cons (pv 1) pa_nil))))
      (pss_one (ps_ret (pe_ifExp (pt_cmpR op_ge (pe_fld (pv 2) rfl) (pe_fld (pv 2) rfl) (nomark _)) (pv 1) (pe_op op_sub (pv 1) pe_int)))))), ?_⟩
    refine ⟨_, rfl, fld_top h_x T.cl_Ratio T.na_Ratio_top ?_⟩
    refine ⟨_, rfl, rfl, _, rfl, rfl, _, rfl, fld_bottom h_x T.cl_Ratio T.na_Ratio_bottom ?_⟩
    refine ⟨rfl, _, rfl, rfl, _, _, rfl, rfl, _, rfl, _, rfl, _, _, _, _, rfl, h_x, ⟨hpre, (lead_pre hpre).1, (lead_pre hpre).2⟩, fun H_1 p_3 s_2 h_4 => ?_⟩
    refine ⟨_, rfl, fld_top h_4 T.cl_Ratio T.na_Ratio_top ?_⟩
    refine ⟨_, rfl, fld_bottom h_4 T.cl_Ratio T.na_Ratio_bottom ?_⟩
    refine ⟨_, _, rfl, rfl, _, rfl, ?_⟩
    refine iteB (fun c_5 => ?_) (fun c_5 => ?_)
    · replace c_5 : ((m_in_steps x_t x_b ((bitsI (absI x_t)) - (bitsI x_b))).2 ≤ (m_in_steps x_t x_b ((bitsI (absI x_t)) - (bitsI x_b))).1) := of_decide_eq_true c_5
      refine ⟨_, rfl, ?_⟩
      exact leaf k s_2 (congrArg V.int (by unfold m_leading_place; rw [if_pos c_5]; try rfl))
    · replace c_5 : ¬ ((m_in_steps x_t x_b ((bitsI (absI x_t)) - (bitsI x_b))).2 ≤ (m_in_steps x_t x_b ((bitsI (absI x_t)) - (bitsI x_b))).1) := of_decide_eq_false c_5
      refine ⟨_, rfl, _, _, rfl, rfl, ?_⟩
      exact leaf k s_2 (congrArg V.int (by unfold m_leading_place; rw [if_neg c_5]; try rfl))
noncomputable def sp_quarters (C : Addr) : Sp := fun vs H Q _ => ∃ (x_p : Addr) (x_t x_b : Int) (place : Int), vs = [.ref x_p, .int place] ∧ RatAt C H x_p x_t x_b ∧ (RB x_t x_b ∧ -20000 ≤ place ∧ place ≤ 20000 ∧ Sz 9000 (x_b * 2 ^ place.toNat)) ∧ ∀ H' : Hp, Same H H' → Q (.int (m_quarters x_t x_b place)) H'
theorem bd_quarters (T : Txt K mg) : Binds K T.fd_quarters ["x", "place"] [] := T.F_quarters.binds (ps := ["x", "place"]) fun _ _ _ _ _ _ => on2 fun _ _ => rfl
theorem ok_quarters (T : Txt K mg) : FnOk P w K mg base CX0 4 T.f_quarters T.fd_quarters ["x", "place"] (sp_quarters T.a_Ratio) := by
  refine T.F_quarters.ok sc_quarters (fun vs H Q E h => ?_) (fun cdv A outer s H vs Q E hr h => ?_)
  · obtain ⟨x_p, x_t, x_b, place, rfl, _⟩ := h
    rfl
  · obtain ⟨x_p, x_t, x_b, place, rfl, h_x, hpre, k⟩ := h
    obtain ⟨s1, s2, s3, s4⟩ := steps_sz hpre.1 hpre.2.1 hpre.2.2.1
    have hv := halves_sz hpre.1 hpre.2.1 hpre.2.2.1
    have s9 : Sz 9000 (m_in_steps x_t x_b place).2 := by rw [in_steps_eq]; exact hpre.2.2.2
    refine ⟨_, (pss_cons (ps_set (i := 2) sc_quarters.nd rfl (Or.inl rfl) (pe_call (ok_in_steps T) (hr.mono (by decide)) rfl T.m_in_steps T.F_in_steps.kp (bd_in_steps T) .nil pass0 (pa_cons (pv 0) (pa_cons (pv 1) pa_nil))))
      (pss_cons (ps_set (i := 3) sc_quarters.nd rfl (Or.inl rfl) (pe_op op_fdivB (pe_op op_mulB pe_int (pe_fld (pv 2) rfl)) (pe_fld (pv 2) rfl)))
      (pss_one (ps_ret (pe_op op_add (pe_op op_mulB pe_int (pv 3)) (pe_ifExp (pt_cmpR op_eqI (pe_op op_mulB (pv 3) (pe_fld (pv 2) rfl)) (pe_op op_mulB pe_int (pe_fld (pv 2) rfl)) (nomark _)) pe_int pe_int)))))), ?_⟩
    refine ⟨_, rfl, _, rfl, _, _, _, _, rfl, h_x, ⟨hpre.1, hpre.2.1, hpre.2.2.1⟩, fun H_1 p_3 s_2 h_4 => ?_⟩
    refine ⟨_, rfl, fld_top h_4 T.cl_Ratio T.na_Ratio_top ?_⟩
    refine ⟨_, _, rfl, rfl, cmul (m := 2) (by decide) s1, _, rfl, fld_bottom h_4 T.cl_Ratio T.na_Ratio_bottom ?_⟩
    refine ⟨_, _, rfl, rfl, cdiv s3 s9, _, rfl, _, _, rfl, rfl, cmul (m := 2) (by decide) hv, _, rfl, _, rfl, fld_bottom h_4 T.cl_Ratio T.na_Ratio_bottom ?_⟩
    refine ⟨_, _, rfl, rfl, cmul hv s2, _, rfl, fld_top h_4 T.cl_Ratio T.na_Ratio_top ?_⟩
    refine ⟨_, _, rfl, rfl, cmul (m := 2) (by decide) s1, _, _, rfl, rfl, _, rfl, ?_⟩
    refine iteB (fun c_5 => ?_) (fun c_5 => ?_)
    · replace c_5 : (((((2) * (m_in_steps x_t x_b place).1) / (m_in_steps x_t x_b place).2) * (m_in_steps x_t x_b place).2) = ((2) * (m_in_steps x_t x_b place).1)) := of_decide_eq_true c_5
      refine ⟨_, _, rfl, rfl, ?_⟩
      exact leaf k s_2 (congrArg V.int (by unfold m_quarters; rw [if_pos c_5]; try rfl))
    · replace c_5 : ¬ (((((2) * (m_in_steps x_t x_b place).1) / (m_in_steps x_t x_b place).2) * (m_in_steps x_t x_b place).2) = ((2) * (m_in_steps x_t x_b place).1)) := of_decide_eq_false c_5
      refine ⟨_, _, rfl, rfl, ?_⟩
      exact leaf k s_2 (congrArg V.int (by unfold m_quarters; rw [if_neg c_5]; try rfl))
noncomputable def sp_is_whole : Sp := fun vs H Q _ => ∃ (size : Int), vs = [.int size] ∧ (True) ∧ ∀ H' : Hp, Same H H' → Q (.bl (m_is_whole size)) H'
theorem bd_is_whole (T : Txt K mg) : Binds K T.fd_is_whole ["size"] [] := T.F_is_whole.binds (ps := ["size"]) fun _ _ _ _ _ _ => on1 fun _ => rfl
theorem ok_is_whole (T : Txt K mg) : FnOk P w K mg base CX0 1 T.f_is_whole T.fd_is_whole ["size"] sp_is_whole := by
  refine T.F_is_whole.ok sc_is_whole (fun vs H Q E h => ?_) (fun cdv A outer s H vs Q E hr h => ?_)
  · obtain ⟨size, rfl, _⟩ := h
    rfl
  · obtain ⟨size, rfl, hpre, k⟩ := h
    refine ⟨_, (pss_one (ps_ret (pe_cmpR op_eqI (pe_op op_mod (pv 0) pe_int) pe_int (nomark _)))), ?_⟩
    refine ⟨_, rfl, _, _, rfl, rfl, (by show (0 : Int) < _; decide), _, _, rfl, rfl, ?_⟩
    exact leaf k Same.refl2 (congrArg V.bl (rfl))
noncomputable def sp_goes_far : Sp := fun vs H Q _ => ∃ (size : Int) (mode : Int) (below : Bool), vs = [.int size, .int mode, .bl below] ∧ (True) ∧ ∀ H' : Hp, Same H H' → Q (.bl (m_goes_far size mode below)) H'
theorem bd_goes_far (T : Txt K mg) : Binds K T.fd_goes_far ["size", "mode", "below"] [] := T.F_goes_far.binds (ps := ["size", "mode", "below"]) fun _ _ _ _ _ _ => on3 fun _ _ _ => rfl
theorem ok_goes_far (T : Txt K mg) : FnOk P w K mg base CX0 1 T.f_goes_far T.fd_goes_far ["size", "mode", "below"] sp_goes_far := by
  refine T.F_goes_far.ok sc_goes_far (fun vs H Q E h => ?_) (fun cdv A outer s H vs Q E hr h => ?_)
  · obtain ⟨size, mode, below, rfl, _⟩ := h
    rfl
  · obtain ⟨size, mode, below, rfl, hpre, k⟩ := h
    refine ⟨_, (pss_cons (ps_if (pt_cmpR op_eqI (pv 1) (pe_globE rfl T.c_TOWARD_NOUGHT) (nomark _)) (pss_one (ps_ret pe_bl)) pss_nil)
      (pss_cons (ps_if (pt_cmpR op_eqI (pv 1) (pe_globE rfl T.c_UP) (nomark _)) (pss_one (ps_ret (pe_not (pv 2)))) pss_nil)
      (pss_cons (ps_if (pt_cmpR op_eqI (pv 1) (pe_globE rfl T.c_DOWN) (nomark _)) (pss_one (ps_ret (pv 2))) pss_nil)
      (pss_cons (ps_if (pt_cmpR op_neI (pe_op op_mod (pv 0) pe_int) pe_int (nomark _)) (pss_one (ps_ret (pe_cmpR op_eqI (pe_op op_mod (pv 0) pe_int) pe_int (nomark _)))) pss_nil)
      (pss_one (ps_ret (pe_or (pe_cmpR op_eqI (pv 1) (pe_globE rfl T.c_NEAREST_FAR) (nomark _)) (pe_one (pe_cmpR op_eqI (pe_op op_mod (pe_op op_fdivB (pv 0) pe_int) pe_int) pe_int (nomark _)))))))))), ?_⟩
    refine ⟨_, rfl, _, _, rfl, rfl, _, rfl, ?_⟩
    refine iteB (fun c_1 => ?_) (fun c_1 => ?_)
    · replace c_1 : (mode = (1)) := of_decide_eq_true c_1
      exact leaf k Same.refl2 (congrArg V.bl (by unfold m_goes_far; rw [if_pos c_1]; try rfl))
    · replace c_1 : ¬ (mode = (1)) := of_decide_eq_false c_1
      refine ⟨_, rfl, _, _, rfl, rfl, _, rfl, ?_⟩
      refine iteB (fun c_2 => ?_) (fun c_2 => ?_)
      · replace c_2 : (mode = (2)) := of_decide_eq_true c_2
        refine ⟨_, rfl, _, rfl, ?_⟩
        exact leaf k Same.refl2 (congrArg V.bl (by unfold m_goes_far; rw [if_neg c_1, if_pos c_2]; try rfl))
      · replace c_2 : ¬ (mode = (2)) := of_decide_eq_false c_2
        refine ⟨_, rfl, _, _, rfl, rfl, _, rfl, ?_⟩
        refine iteB (fun c_3 => ?_) (fun c_3 => ?_)
        · replace c_3 : (mode = (3)) := of_decide_eq_true c_3
          refine ⟨_, rfl, ?_⟩
          exact leaf k Same.refl2 (congrArg V.bl (by unfold m_goes_far; rw [if_neg c_1, if_neg c_2, if_pos c_3]; try rfl))
        · replace c_3 : ¬ (mode = (3)) := of_decide_eq_false c_3
          refine ⟨_, rfl, _, _, rfl, rfl, (by show (0 : Int) < _; decide), _, _, rfl, rfl, _, rfl, ?_⟩
          refine iteB (fun c_4 => ?_) (fun c_4 => ?_)
          · replace c_4 : (¬ (size % (4)) = (2)) := of_decide_eq_true c_4
            refine ⟨_, rfl, _, _, rfl, rfl, (by show (0 : Int) < _; decide), _, _, rfl, rfl, ?_⟩
            exact leaf k Same.refl2 (congrArg V.bl (by unfold m_goes_far; rw [if_neg c_1, if_neg c_2, if_neg c_3, if_pos c_4]; try rfl))
          · replace c_4 : ¬ (¬ (size % (4)) = (2)) := of_decide_eq_false c_4
            refine ⟨_, rfl, _, _, rfl, rfl, _, rfl, ?_⟩
            refine iteB (fun c_5 => ?_) (fun c_5 => ?_)
            · replace c_5 : (mode = (4)) := of_decide_eq_true c_5
              exact leaf k Same.refl2 (congrArg V.bl (by unfold m_goes_far; rw [if_neg c_1, if_neg c_2, if_neg c_3, if_neg c_4, if_pos c_5]; try rfl))
            · replace c_5 : ¬ (mode = (4)) := of_decide_eq_false c_5
              refine ⟨_, rfl, _, _, rfl, rfl, ⟨by decide, by decide⟩, _, _, rfl, rfl, (by show (0 : Int) < _; decide), _, _, rfl, rfl, ?_⟩
              exact leaf k Same.refl2 (congrArg V.bl (by unfold m_goes_far; rw [if_neg c_1, if_neg c_2, if_neg c_3, if_neg c_4, if_neg c_5]; try rfl))
noncomputable def sp_rounded : Sp := fun vs H Q _ => ∃ (size : Int) (mode : Int) (below : Bool), vs = [.int size, .int mode, .bl below] ∧ (True) ∧ ∀ H' : Hp, Same H H' → Q (.int (m_rounded size mode below)) H'
theorem bd_rounded (T : Txt K mg) : Binds K T.fd_rounded ["size", "mode", "below"] [] := T.F_rounded.binds (ps := ["size", "mode", "below"]) fun _ _ _ _ _ _ => on3 fun _ _ _ => rfl
theorem ok_rounded (T : Txt K mg) : FnOk P w K mg base CX0 2 T.f_rounded T.fd_rounded ["size", "mode", "below"] sp_rounded := by
  refine T.F_rounded.ok sc_rounded (fun vs H Q E h => ?_) (fun cdv A outer s H vs Q E hr h => ?_)
  · obtain ⟨size, mode, below, rfl, _⟩ := h
    rfl
  · obtain ⟨size, mode, below, rfl, hpre, k⟩ := h
    refine ⟨_, (pss_cons (ps_if (PW.pt (pw_or (pt_val (pe_call (ok_is_whole T) (hr.mono (by decide)) rfl T.m_is_whole T.F_is_whole.kp (bd_is_whole T) .nil pass0 (pa_cons (pv 0) pa_nil))) (pw_or1 (pt_not (pt_val (pe_call (ok_goes_far T) (hr.mono (by decide)) rfl T.m_goes_far T.F_goes_far.kp (bd_goes_far T) .nil pass0 (pa_cons (pv 0) (pa_cons (pv 1) (pa_cons (pv 2) pa_nil))))))))) (pss_one (ps_ret (pe_op op_fdivB (pv 0) pe_int))) pss_nil)
      (pss_one (ps_ret (pe_op op_add (pe_op op_fdivB (pv 0) pe_int) pe_int)))), ?_⟩
    refine ⟨_, rfl, _, rfl, trivial, fun H_1 s_2 => ?_⟩
    refine ⟨_, rfl, ?_⟩
    refine iteB (fun c_3 => ?_) (fun c_3 => ?_)
    · replace c_3 : ((m_is_whole size) = true) := c_3
      refine iteT ?_
      refine ⟨_, rfl, _, _, rfl, rfl, ⟨by decide, by decide⟩, ?_⟩
      exact leaf k s_2 (congrArg V.int (by unfold m_rounded; rw [if_pos c_3]; try rfl))
    · replace c_3 : ¬ ((m_is_whole size) = true) := ne_true_of_eq_false c_3
      refine ⟨_, rfl, _, rfl, _, rfl, _, _, _, rfl, trivial, fun H_4 s_5 => ?_⟩
      refine ⟨_, rfl, ?_⟩
      refine iteB (fun c_6 => ?_) (fun c_6 => ?_)
      · replace c_6 : ¬ ((m_goes_far size mode below) = true) := ne_true_of_eq_false (not_t c_6)
        refine ⟨_, rfl, _, _, rfl, rfl, ⟨by decide, by decide⟩, ?_⟩
        exact leaf k (Same.trans s_2 s_5) (congrArg V.int (by unfold m_rounded; rw [if_neg c_3, if_neg c_6]; try rfl))
      · replace c_6 : ((m_goes_far size mode below) = true) := (not_f c_6)
        refine ⟨_, rfl, _, _, rfl, rfl, ⟨by decide, by decide⟩, _, _, rfl, rfl, ?_⟩
        exact leaf k (Same.trans s_2 s_5) (congrArg V.int (by unfold m_rounded; rw [if_neg c_3, if_pos c_6]; try rfl))
noncomputable def sp_mode_of : Sp := fun vs H Q _ => ∃ (how : Int), vs = [.int how] ∧ (True) ∧ ∀ H' : Hp, Same H H' → Q (.int (m_mode_of how)) H'
theorem bd_mode_of (T : Txt K mg) : Binds K T.fd_mode_of ["how"] [] := T.F_mode_of.binds (ps := ["how"]) fun _ _ _ _ _ _ => on1 fun _ => rfl
theorem ok_mode_of (T : Txt K mg) : FnOk P w K mg base CX0 1 T.f_mode_of T.fd_mode_of ["how"] sp_mode_of := by
  refine T.F_mode_of.ok sc_mode_of (fun vs H Q E h => ?_) (fun cdv A outer s H vs Q E hr h => ?_)
  · obtain ⟨how, rfl, _⟩ := h
    rfl
  · obtain ⟨how, rfl, hpre, k⟩ := h
    refine ⟨_, (pss_one (ps_ret (pe_op op_mod (pv 0) pe_int))), ?_⟩
    refine ⟨_, rfl, _, _, rfl, rfl, (by show (0 : Int) < _; decide), ?_⟩
    exact leaf k Same.refl2 (congrArg V.int (rfl))
noncomputable def sp_holds : Sp := fun vs H Q _ => ∃ (how : Int), vs = [.int how] ∧ (True) ∧ ∀ H' : Hp, Same H H' → Q (.bl (m_holds how)) H'
theorem bd_holds (T : Txt K mg) : Binds K T.fd_holds ["how"] [] := T.F_holds.binds (ps := ["how"]) fun _ _ _ _ _ _ => on1 fun _ => rfl
theorem ok_holds (T : Txt K mg) : FnOk P w K mg base CX0 1 T.f_holds T.fd_holds ["how"] sp_holds := by
  refine T.F_holds.ok sc_holds (fun vs H Q E h => ?_) (fun cdv A outer s H vs Q E hr h => ?_)
  · obtain ⟨how, rfl, _⟩ := h
    rfl
  · obtain ⟨how, rfl, hpre, k⟩ := h
    refine ⟨_, (pss_one (ps_ret (pe_cmpR op_ge (pv 0) pe_int (nomark _)))), ?_⟩
    refine ⟨_, rfl, _, _, rfl, rfl, ?_⟩
    exact leaf k Same.refl2 (congrArg V.bl (rfl))
noncomputable def sp_may_put : Sp := fun vs H Q _ => ∃ (f : Int) (how : Int), vs = [.int f, .int how] ∧ (True) ∧ ∀ H' : Hp, Same H H' → Q (.bl (m_may_put f how)) H'
theorem bd_may_put (T : Txt K mg) : Binds K T.fd_may_put ["f", "how"] [] := T.F_may_put.binds (ps := ["f", "how"]) fun _ _ _ _ _ _ => on2 fun _ _ => rfl
theorem ok_may_put (T : Txt K mg) : FnOk P w K mg base CX0 3 T.f_may_put T.fd_may_put ["f", "how"] sp_may_put := by
  refine T.F_may_put.ok sc_may_put (fun vs H Q E h => ?_) (fun cdv A outer s H vs Q E hr h => ?_)
  · obtain ⟨f, how, rfl, _⟩ := h
    rfl
  · obtain ⟨f, how, rfl, hpre, k⟩ := h
    refine ⟨_, (pss_cons (ps_if (pt_not (PW.pt (pw_and (pt_val (pe_call (ok_is_format T) (hr.mono (by decide)) rfl T.m_is_format T.F_is_format.kp (bd_is_format T) .nil pass0 (pa_cons (pv 0) pa_nil))) (pw_and (pt_chain op_le op_le pe_int (pv 1) pe_int) (pw_and1 (pt_val (pe_call (ok_is_mode T) (hr.mono (by decide)) rfl T.m_is_mode T.F_is_mode.kp (bd_is_mode T) .nil pass0 (pa_cons (pe_call (ok_mode_of T) (hr.mono (by decide)) rfl T.m_mode_of T.F_mode_of.kp (bd_mode_of T) .nil pass0 (pa_cons (pv 1) pa_nil)) pa_nil)))))))) (pss_one (ps_ret pe_bl)) pss_nil)
      (pss_one (ps_ret (pe_or (pe_cmpR op_neI (pe_call (ok_kind_of T) (hr.mono (by decide)) rfl T.m_kind_of T.F_kind_of.kp (bd_kind_of T) .nil pass0 (pa_cons (pv 0) pa_nil)) (pe_globE rfl T.c_FLOAT) (nomark _)) (pe_one (pe_call (ok_holds T) (hr.mono (by decide)) rfl T.m_holds T.F_holds.kp (bd_holds T) .nil pass0 (pa_cons (pv 1) pa_nil))))))), ?_⟩
    refine ⟨_, rfl, _, rfl, trivial, fun H_1 s_2 => ?_⟩
    refine ⟨_, rfl, ?_⟩
    refine iteB (fun c_3 => ?_) (fun c_3 => ?_)
    · replace c_3 : ((m_is_format f) = true) := c_3
      refine ⟨_, rfl, _, _, rfl, rfl, _, rfl, ?_⟩
      refine iteB (fun c_4 => ?_) (fun c_4 => ?_)
      · replace c_4 : ((0) ≤ how) := of_decide_eq_true c_4
        refine ⟨_, _, rfl, rfl, _, rfl, ?_⟩
        refine iteB (fun c_5 => ?_) (fun c_5 => ?_)
        · replace c_5 : (how ≤ (15)) := of_decide_eq_true c_5
          refine ⟨_, rfl, _, rfl, trivial, fun H_6 s_7 => ?_⟩
          refine ⟨_, rfl, trivial, fun H_8 s_9 => ?_⟩
          refine ⟨_, rfl, ?_⟩
          refine iteB (fun c_10 => ?_) (fun c_10 => ?_)
          · replace c_10 : ¬ ((m_is_mode (m_mode_of how)) = true) := ne_true_of_eq_false (not_t c_10)
            exact leaf k (Same.trans (Same.trans s_2 s_7) s_9) (congrArg V.bl (by unfold m_may_put; rw [if_pos c_3, if_pos c_4, if_pos c_5, if_neg c_10]; try rfl))
          · replace c_10 : ((m_is_mode (m_mode_of how)) = true) := (not_f c_10)
            refine ⟨_, rfl, _, rfl, trivial, fun H_11 s_12 => ?_⟩
            refine ⟨_, _, rfl, rfl, _, rfl, ?_⟩
            refine iteB (fun c_13 => ?_) (fun c_13 => ?_)
            · replace c_13 : (¬ (m_kind_of f) = (3)) := of_decide_eq_true c_13
              exact leaf k (Same.trans (Same.trans (Same.trans s_2 s_7) s_9) s_12) (congrArg V.bl (by unfold m_may_put; rw [if_pos c_3, if_pos c_4, if_pos c_5, if_pos c_10, if_pos c_13]; try rfl))
            · replace c_13 : ¬ (¬ (m_kind_of f) = (3)) := of_decide_eq_false c_13
              refine ⟨_, rfl, _, rfl, trivial, fun H_14 s_15 => ?_⟩
              exact leaf k (Same.trans (Same.trans (Same.trans (Same.trans s_2 s_7) s_9) s_12) s_15) (congrArg V.bl (by unfold m_may_put; rw [if_pos c_3, if_pos c_4, if_pos c_5, if_pos c_10, if_neg c_13]; try rfl))
        · replace c_5 : ¬ (how ≤ (15)) := of_decide_eq_false c_5
          refine iteT ?_
          exact leaf k s_2 (congrArg V.bl (by unfold m_may_put; rw [if_pos c_3, if_pos c_4, if_neg c_5]; try rfl))
      · replace c_4 : ¬ ((0) ≤ how) := of_decide_eq_false c_4
        refine ⟨_, rfl, ?_⟩
        refine iteF ?_
        refine iteT ?_
        exact leaf k s_2 (congrArg V.bl (by unfold m_may_put; rw [if_pos c_3, if_neg c_4]; try rfl))
    · replace c_3 : ¬ ((m_is_format f) = true) := ne_true_of_eq_false c_3
      refine iteT ?_
      exact leaf k s_2 (congrArg V.bl (by unfold m_may_put; rw [if_neg c_3]; try rfl))
noncomputable def sp_end_raw : Sp := fun vs H Q _ => ∃ (f : Int) (below : Bool), vs = [.int f, .bl below] ∧ (m_is_format f = true) ∧ ∀ H' : Hp, Same H H' → Q (.int (m_end_raw f below)) H'
theorem bd_end_raw (T : Txt K mg) : Binds K T.fd_end_raw ["f", "below"] [] := T.F_end_raw.binds (ps := ["f", "below"]) fun _ _ _ _ _ _ => on2 fun _ _ => rfl
theorem ok_end_raw (T : Txt K mg) : FnOk P w K mg base CX0 6 T.f_end_raw T.fd_end_raw ["f", "below"] sp_end_raw := by
  refine T.F_end_raw.ok sc_end_raw (fun vs H Q E h => ?_) (fun cdv A outer s H vs Q E hr h => ?_)
  · obtain ⟨f, below, rfl, _⟩ := h
    rfl
  · obtain ⟨f, below, rfl, hpre, k⟩ := h
    refine ⟨_, (pss_one (ps_ret (pe_ifExp (pt_val (pv 1)) (pe_call (ok_least_raw T) (hr.mono (by decide)) rfl T.m_least_raw T.F_least_raw.kp (bd_least_raw T) .nil pass0 (pa_cons (pv 0) pa_nil)) (pe_call (ok_greatest_raw T) (hr.mono (by decide)) rfl T.m_greatest_raw T.F_greatest_raw.kp (bd_greatest_raw T) .nil pass0 (pa_cons (pv 0) pa_nil))))), ?_⟩
    refine ⟨_, rfl, _, rfl, ?_⟩
    refine iteB (fun c_1 => ?_) (fun c_1 => ?_)
    · replace c_1 : (below = true) := c_1
      refine ⟨_, rfl, _, rfl, hpre, fun H_2 s_3 => ?_⟩
      exact leaf k s_3 (congrArg V.int (by unfold m_end_raw; rw [if_pos c_1]; try rfl))
    · replace c_1 : ¬ (below = true) := ne_true_of_eq_false c_1
      refine ⟨_, rfl, _, rfl, hpre, fun H_4 s_5 => ?_⟩
      exact leaf k s_5 (congrArg V.int (by unfold m_end_raw; rw [if_neg c_1]; try rfl))
noncomputable def sp_put_fixed (C : Addr) : Sp := fun vs H Q _ => ∃ (x_p : Addr) (x_t x_b : Int) (f : Int) (how : Int), vs = [.ref x_p, .int f, .int how] ∧ RatAt C H x_p x_t x_b ∧ (RB x_t x_b ∧ m_is_format f = true) ∧ ∀ (H' : Hp) (p : Addr), Same H H' → H' p = some (.lst [.int (m_put_fixed x_t x_b f how).1, .int (m_put_fixed x_t x_b f how).2]) → Q (.ref p) H'
theorem bd_put_fixed (T : Txt K mg) : Binds K T.fd_put_fixed ["x", "f", "how"] [] := T.F_put_fixed.binds (ps := ["x", "f", "how"]) fun _ _ _ _ _ _ => on3 fun _ _ _ => rfl
theorem ok_put_fixed (T : Txt K mg) : FnOk P w K mg base CX0 7 T.f_put_fixed T.fd_put_fixed ["x", "f", "how"] (sp_put_fixed T.a_Ratio) := by
  refine T.F_put_fixed.ok sc_put_fixed (fun vs H Q E h => ?_) (fun cdv A outer s H vs Q E hr h => ?_)
  · obtain ⟨x_p, x_t, x_b, f, how, rfl, _⟩ := h
    rfl
  · obtain ⟨x_p, x_t, x_b, f, how, rfl, h_x, hpre, k⟩ := h
    refine ⟨_, (pss_cons (ps_set (i := 3) sc_put_fixed.nd rfl (Or.inl rfl) (pe_cmpR op_lt (pe_fld (pv 0) rfl) pe_int (nomark _)))
      (pss_cons (ps_set (i := 4) sc_put_fixed.nd rfl (Or.inl rfl) (pe_call (ok_quarters T) (hr.mono (by decide)) rfl T.m_quarters T.F_quarters.kp (bd_quarters T) .nil pass0 (pa_cons (pv 0) (pa_cons (pe_un un_neg (pe_call (ok_point_of T) (hr.mono (by decide)) rfl T.m_point_of T.F_point_of.kp (bd_point_of T) .nil pass0 (pa_cons (pv 1) pa_nil))) pa_nil))))
      (pss_cons (ps_set (i := 5) sc_put_fixed.nd rfl (Or.inl rfl) (pe_call (ok_rounded T) (hr.mono (by decide)) rfl T.m_rounded T.F_rounded.kp (bd_rounded T) .nil pass0 (pa_cons (pv 4) (pa_cons (pe_call (ok_mode_of T) (hr.mono (by decide)) rfl T.m_mode_of T.F_mode_of.kp (bd_mode_of T) .nil pass0 (pa_cons (pv 2) pa_nil)) (pa_cons (pv 3) pa_nil)))))
      (pss_cons (ps_if (pt_val (pv 3)) (pss_one (ps_set (i := 5) sc_put_fixed.nd rfl (Or.inl rfl) (pe_un un_neg (pv 5)))) pss_nil)
      (pss_cons (ps_set (i := 6) sc_put_fixed.nd rfl (Or.inl rfl) (pe_ifExp (pt_val (pe_call (ok_is_whole T) (hr.mono (by decide)) rfl T.m_is_whole T.F_is_whole.kp (bd_is_whole T) .nil pass0 (pa_cons (pv 4) pa_nil))) pe_int (pe_globE rfl T.c_INEXACT)))
      (pss_cons (ps_set (i := 7) sc_put_fixed.nd rfl (Or.inl rfl) (pe_op op_mod (pv 5) (pe_op op_shlB pe_int (pe_call (ok_width_of T) (hr.mono (by decide)) rfl T.m_width_of T.F_width_of.kp (bd_width_of T) .nil pass0 (pa_cons (pv 1) pa_nil)))))
      (pss_cons (ps_if (pt_chain op_le op_le (pe_call (ok_steps_of T) (hr.mono (by decide)) rfl T.m_steps_of T.F_steps_of.kp (bd_steps_of T) .nil pass0 (pa_cons (pv 1) (pa_cons (pe_call (ok_least_raw T) (hr.mono (by decide)) rfl T.m_least_raw T.F_least_raw.kp (bd_least_raw T) .nil pass0 (pa_cons (pv 1) pa_nil)) pa_nil))) (pv 5) (pe_call (ok_steps_of T) (hr.mono (by decide)) rfl T.m_steps_of T.F_steps_of.kp (bd_steps_of T) .nil pass0 (pa_cons (pv 1) (pa_cons (pe_call (ok_greatest_raw T) (hr.mono (by decide)) rfl T.m_greatest_raw T.F_greatest_raw.kp (bd_greatest_raw T) .nil pass0 (pa_cons (pv 1) pa_nil)) pa_nil)))) (pss_one (ps_ret (pe_lst (pa_cons (pv 6) (pa_cons (pv 7) pa_nil))))) pss_nil)
      (pss_cons (ps_if (pt_val (pe_call (ok_holds T) (hr.mono (by decide)) rfl T.m_holds T.F_holds.kp (bd_holds T) .nil pass0 (pa_cons (pv 2) pa_nil))) (pss_one (ps_ret (pe_lst (pa_cons (pe_op op_add (pe_globE rfl T.c_INEXACT) (pe_globE rfl T.c_HELD)) (pa_cons (pe_call (ok_end_raw T) (hr.mono (by decide)) rfl T.m_end_raw T.F_end_raw.kp (bd_end_raw T) .nil pass0 (pa_cons (pv 1) (pa_cons (pv 3) pa_nil))) pa_nil))))) pss_nil)
      (pss_one (ps_ret (pe_lst (pa_cons (pe_op op_add (pv 6) (pe_globE rfl T.c_HELD)) (pa_cons (pv 7) pa_nil))))))))))))), ?_⟩
    refine ⟨_, rfl, fld_top h_x T.cl_Ratio T.na_Ratio_top ?_⟩
    refine ⟨_, _, rfl, rfl, _, rfl, _, rfl, _, rfl, trivial, fun H_1 s_2 => ?_⟩
    refine ⟨_, rfl, _, _, _, _, rfl, (RatAt.keep s_2 h_x), ⟨hpre.1, by have := point_lt f; omega, by have := point_nn f; omega, fix_place f hpre.1.2.1⟩, fun H_3 s_4 => ?_⟩
    refine ⟨_, rfl, _, rfl, _, rfl, trivial, fun H_5 s_6 => ?_⟩
    refine ⟨_, rfl, _, _, _, rfl, trivial, fun H_7 s_8 => ?_⟩
    refine ⟨_, rfl, _, rfl, ?_⟩
    refine iteB (fun c_9 => ?_) (fun c_9 => ?_)
    · replace c_9 : (x_t < (0)) := of_decide_eq_true c_9
      refine ⟨_, rfl, _, rfl, _, rfl, _, rfl, trivial, fun H_10 s_11 => ?_⟩
      refine ⟨_, rfl, ?_⟩
      refine iteB (fun c_12 => ?_) (fun c_12 => ?_)
      · replace c_12 : ((m_is_whole (m_quarters x_t x_b (-(m_point_of f)))) = true) := c_12
        refine ⟨_, rfl, _, rfl, _, rfl, trivial, fun H_13 s_14 => ?_⟩
        refine ⟨_, _, rfl, rfl, cshl (width_nn f) (m := 1) (by decide) (by have := width_lt f; omega), _, _, rfl, rfl, (one_pos _), _, rfl, _, rfl, _, rfl, hpre.2, fun H_15 s_16 => ?_⟩
        refine ⟨_, _, rfl, hpre.2, fun H_17 s_18 => ?_⟩
        refine ⟨_, rfl, _, _, rfl, rfl, _, rfl, ?_⟩
        refine iteB (fun c_19 => ?_) (fun c_19 => ?_)
        · replace c_19 : ((m_steps_of f (m_least_raw f)) ≤ (-(m_rounded (m_quarters x_t x_b (-(m_point_of f))) (m_mode_of how) (decide (x_t < (0)))))) := of_decide_eq_true c_19
          refine ⟨_, rfl, _, rfl, _, rfl, hpre.2, fun H_20 s_21 => ?_⟩
          refine ⟨_, _, rfl, hpre.2, fun H_22 s_23 => ?_⟩
          refine ⟨_, _, rfl, rfl, _, rfl, ?_⟩
          refine iteB (fun c_24 => ?_) (fun c_24 => ?_)
          · replace c_24 : ((-(m_rounded (m_quarters x_t x_b (-(m_point_of f))) (m_mode_of how) (decide (x_t < (0))))) ≤ (m_steps_of f (m_greatest_raw f))) := of_decide_eq_true c_24
            refine ⟨_, rfl, _, rfl, (by show 2 ≤ sizeLine; decide), fun p_25 h_26 => ?_⟩
            exact leafP (u := ((0), ((-(m_rounded (m_quarters x_t x_b (-(m_point_of f))) (m_mode_of how) (decide (x_t < (0))))) % ((1) * 2 ^ ((m_width_of f) : Int).toNat)))) k (Same.trans (Same.trans (Same.trans (Same.trans (Same.trans (Same.trans (Same.trans (Same.trans (Same.trans (Same.trans s_2 s_4) s_6) s_8) s_11) s_14) s_16) s_18) s_21) s_23) (Same.new h_26)) upd_same (by unfold m_put_fixed; rw [if_pos c_9, if_pos c_12, if_pos c_19, if_pos c_24]; try rfl)
          · replace c_24 : ¬ ((-(m_rounded (m_quarters x_t x_b (-(m_point_of f))) (m_mode_of how) (decide (x_t < (0))))) ≤ (m_steps_of f (m_greatest_raw f))) := of_decide_eq_false c_24
            refine ⟨_, rfl, _, rfl, trivial, fun H_27 s_28 => ?_⟩
            refine ⟨_, rfl, ?_⟩
            refine iteB (fun c_29 => ?_) (fun c_29 => ?_)
            · replace c_29 : ((m_holds how) = true) := c_29
              refine ⟨_, _, rfl, rfl, _, rfl, _, rfl, _, _, rfl, hpre.2, fun H_30 s_31 => ?_⟩
              refine ⟨(by show 2 ≤ sizeLine; decide), fun p_32 h_33 => ?_⟩
              exact leafP (u := (((1) + (4)), (m_end_raw f (decide (x_t < (0)))))) k (Same.trans (Same.trans (Same.trans (Same.trans (Same.trans (Same.trans (Same.trans (Same.trans (Same.trans (Same.trans (Same.trans (Same.trans s_2 s_4) s_6) s_8) s_11) s_14) s_16) s_18) s_21) s_23) s_28) s_31) (Same.new h_33)) upd_same (by unfold m_put_fixed; rw [if_pos c_9, if_pos c_12, if_pos c_19, if_neg c_24, if_pos c_29]; try rfl)
            · replace c_29 : ¬ ((m_holds how) = true) := ne_true_of_eq_false c_29
              refine ⟨_, rfl, _, _, rfl, rfl, _, rfl, (by show 2 ≤ sizeLine; decide), fun p_34 h_35 => ?_⟩
              exact leafP (u := (((0) + (4)), ((-(m_rounded (m_quarters x_t x_b (-(m_point_of f))) (m_mode_of how) (decide (x_t < (0))))) % ((1) * 2 ^ ((m_width_of f) : Int).toNat)))) k (Same.trans (Same.trans (Same.trans (Same.trans (Same.trans (Same.trans (Same.trans (Same.trans (Same.trans (Same.trans (Same.trans s_2 s_4) s_6) s_8) s_11) s_14) s_16) s_18) s_21) s_23) s_28) (Same.new h_35)) upd_same (by unfold m_put_fixed; rw [if_pos c_9, if_pos c_12, if_pos c_19, if_neg c_24, if_neg c_29]; try rfl)
        · replace c_19 : ¬ ((m_steps_of f (m_least_raw f)) ≤ (-(m_rounded (m_quarters x_t x_b (-(m_point_of f))) (m_mode_of how) (decide (x_t < (0)))))) := of_decide_eq_false c_19
          refine ⟨_, rfl, ?_⟩
          refine iteF ?_
          refine ⟨_, rfl, _, rfl, trivial, fun H_36 s_37 => ?_⟩
          refine ⟨_, rfl, ?_⟩
          refine iteB (fun c_38 => ?_) (fun c_38 => ?_)
          · replace c_38 : ((m_holds how) = true) := c_38
            refine ⟨_, _, rfl, rfl, _, rfl, _, rfl, _, _, rfl, hpre.2, fun H_39 s_40 => ?_⟩
            refine ⟨(by show 2 ≤ sizeLine; decide), fun p_41 h_42 => ?_⟩
            exact leafP (u := (((1) + (4)), (m_end_raw f (decide (x_t < (0)))))) k (Same.trans (Same.trans (Same.trans (Same.trans (Same.trans (Same.trans (Same.trans (Same.trans (Same.trans (Same.trans s_2 s_4) s_6) s_8) s_11) s_14) s_16) s_18) s_37) s_40) (Same.new h_42)) upd_same (by unfold m_put_fixed; rw [if_pos c_9, if_pos c_12, if_neg c_19, if_pos c_38]; try rfl)
          · replace c_38 : ¬ ((m_holds how) = true) := ne_true_of_eq_false c_38
            refine ⟨_, rfl, _, _, rfl, rfl, _, rfl, (by show 2 ≤ sizeLine; decide), fun p_43 h_44 => ?_⟩
            exact leafP (u := (((0) + (4)), ((-(m_rounded (m_quarters x_t x_b (-(m_point_of f))) (m_mode_of how) (decide (x_t < (0))))) % ((1) * 2 ^ ((m_width_of f) : Int).toNat)))) k (Same.trans (Same.trans (Same.trans (Same.trans (Same.trans (Same.trans (Same.trans (Same.trans (Same.trans s_2 s_4) s_6) s_8) s_11) s_14) s_16) s_18) s_37) (Same.new h_44)) upd_same (by unfold m_put_fixed; rw [if_pos c_9, if_pos c_12, if_neg c_19, if_neg c_38]; try rfl)
      · replace c_12 : ¬ ((m_is_whole (m_quarters x_t x_b (-(m_point_of f)))) = true) := ne_true_of_eq_false c_12
        refine ⟨_, rfl, _, rfl, _, rfl, trivial, fun H_45 s_46 => ?_⟩
        refine ⟨_, _, rfl, rfl, cshl (width_nn f) (m := 1) (by decide) (by have := width_lt f; omega), _, _, rfl, rfl, (one_pos _), _, rfl, _, rfl, _, rfl, hpre.2, fun H_47 s_48 => ?_⟩
        refine ⟨_, _, rfl, hpre.2, fun H_49 s_50 => ?_⟩
        refine ⟨_, rfl, _, _, rfl, rfl, _, rfl, ?_⟩
        refine iteB (fun c_51 => ?_) (fun c_51 => ?_)
        · replace c_51 : ((m_steps_of f (m_least_raw f)) ≤ (-(m_rounded (m_quarters x_t x_b (-(m_point_of f))) (m_mode_of how) (decide (x_t < (0)))))) := of_decide_eq_true c_51
          refine ⟨_, rfl, _, rfl, _, rfl, hpre.2, fun H_52 s_53 => ?_⟩
          refine ⟨_, _, rfl, hpre.2, fun H_54 s_55 => ?_⟩
          refine ⟨_, _, rfl, rfl, _, rfl, ?_⟩
          refine iteB (fun c_56 => ?_) (fun c_56 => ?_)
          · replace c_56 : ((-(m_rounded (m_quarters x_t x_b (-(m_point_of f))) (m_mode_of how) (decide (x_t < (0))))) ≤ (m_steps_of f (m_greatest_raw f))) := of_decide_eq_true c_56
            refine ⟨_, rfl, _, rfl, (by show 2 ≤ sizeLine; decide), fun p_57 h_58 => ?_⟩
            exact leafP (u := ((1), ((-(m_rounded (m_quarters x_t x_b (-(m_point_of f))) (m_mode_of how) (decide (x_t < (0))))) % ((1) * 2 ^ ((m_width_of f) : Int).toNat)))) k (Same.trans (Same.trans (Same.trans (Same.trans (Same.trans (Same.trans (Same.trans (Same.trans (Same.trans (Same.trans s_2 s_4) s_6) s_8) s_11) s_46) s_48) s_50) s_53) s_55) (Same.new h_58)) upd_same (by unfold m_put_fixed; rw [if_pos c_9, if_neg c_12, if_pos c_51, if_pos c_56]; try rfl)
          · replace c_56 : ¬ ((-(m_rounded (m_quarters x_t x_b (-(m_point_of f))) (m_mode_of how) (decide (x_t < (0))))) ≤ (m_steps_of f (m_greatest_raw f))) := of_decide_eq_false c_56
            refine ⟨_, rfl, _, rfl, trivial, fun H_59 s_60 => ?_⟩
            refine ⟨_, rfl, ?_⟩
            refine iteB (fun c_61 => ?_) (fun c_61 => ?_)
            · replace c_61 : ((m_holds how) = true) := c_61
              refine ⟨_, _, rfl, rfl, _, rfl, _, rfl, _, _, rfl, hpre.2, fun H_62 s_63 => ?_⟩
              refine ⟨(by show 2 ≤ sizeLine; decide), fun p_64 h_65 => ?_⟩
              exact leafP (u := (((1) + (4)), (m_end_raw f (decide (x_t < (0)))))) k (Same.trans (Same.trans (Same.trans (Same.trans (Same.trans (Same.trans (Same.trans (Same.trans (Same.trans (Same.trans (Same.trans (Same.trans s_2 s_4) s_6) s_8) s_11) s_46) s_48) s_50) s_53) s_55) s_60) s_63) (Same.new h_65)) upd_same (by unfold m_put_fixed; rw [if_pos c_9, if_neg c_12, if_pos c_51, if_neg c_56, if_pos c_61]; try rfl)
            · replace c_61 : ¬ ((m_holds how) = true) := ne_true_of_eq_false c_61
              refine ⟨_, rfl, _, _, rfl, rfl, _, rfl, (by show 2 ≤ sizeLine; decide), fun p_66 h_67 => ?_⟩
              exact leafP (u := (((1) + (4)), ((-(m_rounded (m_quarters x_t x_b (-(m_point_of f))) (m_mode_of how) (decide (x_t < (0))))) % ((1) * 2 ^ ((m_width_of f) : Int).toNat)))) k (Same.trans (Same.trans (Same.trans (Same.trans (Same.trans (Same.trans (Same.trans (Same.trans (Same.trans (Same.trans (Same.trans s_2 s_4) s_6) s_8) s_11) s_46) s_48) s_50) s_53) s_55) s_60) (Same.new h_67)) upd_same (by unfold m_put_fixed; rw [if_pos c_9, if_neg c_12, if_pos c_51, if_neg c_56, if_neg c_61]; try rfl)
        · replace c_51 : ¬ ((m_steps_of f (m_least_raw f)) ≤ (-(m_rounded (m_quarters x_t x_b (-(m_point_of f))) (m_mode_of how) (decide (x_t < (0)))))) := of_decide_eq_false c_51
          refine ⟨_, rfl, ?_⟩
          refine iteF ?_
          refine ⟨_, rfl, _, rfl, trivial, fun H_68 s_69 => ?_⟩
          refine ⟨_, rfl, ?_⟩
          refine iteB (fun c_70 => ?_) (fun c_70 => ?_)
          · replace c_70 : ((m_holds how) = true) := c_70
            refine ⟨_, _, rfl, rfl, _, rfl, _, rfl, _, _, rfl, hpre.2, fun H_71 s_72 => ?_⟩
            refine ⟨(by show 2 ≤ sizeLine; decide), fun p_73 h_74 => ?_⟩
            exact leafP (u := (((1) + (4)), (m_end_raw f (decide (x_t < (0)))))) k (Same.trans (Same.trans (Same.trans (Same.trans (Same.trans (Same.trans (Same.trans (Same.trans (Same.trans (Same.trans s_2 s_4) s_6) s_8) s_11) s_46) s_48) s_50) s_69) s_72) (Same.new h_74)) upd_same (by unfold m_put_fixed; rw [if_pos c_9, if_neg c_12, if_neg c_51, if_pos c_70]; try rfl)
          · replace c_70 : ¬ ((m_holds how) = true) := ne_true_of_eq_false c_70
            refine ⟨_, rfl, _, _, rfl, rfl, _, rfl, (by show 2 ≤ sizeLine; decide), fun p_75 h_76 => ?_⟩
            exact leafP (u := (((1) + (4)), ((-(m_rounded (m_quarters x_t x_b (-(m_point_of f))) (m_mode_of how) (decide (x_t < (0))))) % ((1) * 2 ^ ((m_width_of f) : Int).toNat)))) k (Same.trans (Same.trans (Same.trans (Same.trans (Same.trans (Same.trans (Same.trans (Same.trans (Same.trans s_2 s_4) s_6) s_8) s_11) s_46) s_48) s_50) s_69) (Same.new h_76)) upd_same (by unfold m_put_fixed; rw [if_pos c_9, if_neg c_12, if_neg c_51, if_neg c_70]; try rfl)
    · replace c_9 : ¬ (x_t < (0)) := of_decide_eq_false c_9
      refine ⟨_, rfl, _, rfl, trivial, fun H_77 s_78 => ?_⟩
      refine ⟨_, rfl, ?_⟩
      refine iteB (fun c_79 => ?_) (fun c_79 => ?_)
      · replace c_79 : ((m_is_whole (m_quarters x_t x_b (-(m_point_of f)))) = true) := c_79
        refine ⟨_, rfl, _, rfl, _, rfl, trivial, fun H_80 s_81 => ?_⟩
        refine ⟨_, _, rfl, rfl, cshl (width_nn f) (m := 1) (by decide) (by have := width_lt f; omega), _, _, rfl, rfl, (one_pos _), _, rfl, _, rfl, _, rfl, hpre.2, fun H_82 s_83 => ?_⟩
        refine ⟨_, _, rfl, hpre.2, fun H_84 s_85 => ?_⟩
        refine ⟨_, rfl, _, _, rfl, rfl, _, rfl, ?_⟩
        refine iteB (fun c_86 => ?_) (fun c_86 => ?_)
        · replace c_86 : ((m_steps_of f (m_least_raw f)) ≤ (m_rounded (m_quarters x_t x_b (-(m_point_of f))) (m_mode_of how) (decide (x_t < (0))))) := of_decide_eq_true c_86
          refine ⟨_, rfl, _, rfl, _, rfl, hpre.2, fun H_87 s_88 => ?_⟩
          refine ⟨_, _, rfl, hpre.2, fun H_89 s_90 => ?_⟩
          refine ⟨_, _, rfl, rfl, _, rfl, ?_⟩
          refine iteB (fun c_91 => ?_) (fun c_91 => ?_)
          · replace c_91 : ((m_rounded (m_quarters x_t x_b (-(m_point_of f))) (m_mode_of how) (decide (x_t < (0)))) ≤ (m_steps_of f (m_greatest_raw f))) := of_decide_eq_true c_91
            refine ⟨_, rfl, _, rfl, (by show 2 ≤ sizeLine; decide), fun p_92 h_93 => ?_⟩
            exact leafP (u := ((0), ((m_rounded (m_quarters x_t x_b (-(m_point_of f))) (m_mode_of how) (decide (x_t < (0)))) % ((1) * 2 ^ ((m_width_of f) : Int).toNat)))) k (Same.trans (Same.trans (Same.trans (Same.trans (Same.trans (Same.trans (Same.trans (Same.trans (Same.trans (Same.trans s_2 s_4) s_6) s_8) s_78) s_81) s_83) s_85) s_88) s_90) (Same.new h_93)) upd_same (by unfold m_put_fixed; rw [if_neg c_9, if_pos c_79, if_pos c_86, if_pos c_91]; try rfl)
          · replace c_91 : ¬ ((m_rounded (m_quarters x_t x_b (-(m_point_of f))) (m_mode_of how) (decide (x_t < (0)))) ≤ (m_steps_of f (m_greatest_raw f))) := of_decide_eq_false c_91
            refine ⟨_, rfl, _, rfl, trivial, fun H_94 s_95 => ?_⟩
            refine ⟨_, rfl, ?_⟩
            refine iteB (fun c_96 => ?_) (fun c_96 => ?_)
            · replace c_96 : ((m_holds how) = true) := c_96
              refine ⟨_, _, rfl, rfl, _, rfl, _, rfl, _, _, rfl, hpre.2, fun H_97 s_98 => ?_⟩
              refine ⟨(by show 2 ≤ sizeLine; decide), fun p_99 h_100 => ?_⟩
              exact leafP (u := (((1) + (4)), (m_end_raw f (decide (x_t < (0)))))) k (Same.trans (Same.trans (Same.trans (Same.trans (Same.trans (Same.trans (Same.trans (Same.trans (Same.trans (Same.trans (Same.trans (Same.trans s_2 s_4) s_6) s_8) s_78) s_81) s_83) s_85) s_88) s_90) s_95) s_98) (Same.new h_100)) upd_same (by unfold m_put_fixed; rw [if_neg c_9, if_pos c_79, if_pos c_86, if_neg c_91, if_pos c_96]; try rfl)
            · replace c_96 : ¬ ((m_holds how) = true) := ne_true_of_eq_false c_96
              refine ⟨_, rfl, _, _, rfl, rfl, _, rfl, (by show 2 ≤ sizeLine; decide), fun p_101 h_102 => ?_⟩
              exact leafP (u := (((0) + (4)), ((m_rounded (m_quarters x_t x_b (-(m_point_of f))) (m_mode_of how) (decide (x_t < (0)))) % ((1) * 2 ^ ((m_width_of f) : Int).toNat)))) k (Same.trans (Same.trans (Same.trans (Same.trans (Same.trans (Same.trans (Same.trans (Same.trans (Same.trans (Same.trans (Same.trans s_2 s_4) s_6) s_8) s_78) s_81) s_83) s_85) s_88) s_90) s_95) (Same.new h_102)) upd_same (by unfold m_put_fixed; rw [if_neg c_9, if_pos c_79, if_pos c_86, if_neg c_91, if_neg c_96]; try rfl)
        · replace c_86 : ¬ ((m_steps_of f (m_least_raw f)) ≤ (m_rounded (m_quarters x_t x_b (-(m_point_of f))) (m_mode_of how) (decide (x_t < (0))))) := of_decide_eq_false c_86
          refine ⟨_, rfl, ?_⟩
          refine iteF ?_
          refine ⟨_, rfl, _, rfl, trivial, fun H_103 s_104 => ?_⟩
          refine ⟨_, rfl, ?_⟩
          refine iteB (fun c_105 => ?_) (fun c_105 => ?_)
          · replace c_105 : ((m_holds how) = true) := c_105
            refine ⟨_, _, rfl, rfl, _, rfl, _, rfl, _, _, rfl, hpre.2, fun H_106 s_107 => ?_⟩
            refine ⟨(by show 2 ≤ sizeLine; decide), fun p_108 h_109 => ?_⟩
            exact leafP (u := (((1) + (4)), (m_end_raw f (decide (x_t < (0)))))) k (Same.trans (Same.trans (Same.trans (Same.trans (Same.trans (Same.trans (Same.trans (Same.trans (Same.trans (Same.trans s_2 s_4) s_6) s_8) s_78) s_81) s_83) s_85) s_104) s_107) (Same.new h_109)) upd_same (by unfold m_put_fixed; rw [if_neg c_9, if_pos c_79, if_neg c_86, if_pos c_105]; try rfl)
          · replace c_105 : ¬ ((m_holds how) = true) := ne_true_of_eq_false c_105
            refine ⟨_, rfl, _, _, rfl, rfl, _, rfl, (by show 2 ≤ sizeLine; decide), fun p_110 h_111 => ?_⟩
            exact leafP (u := (((0) + (4)), ((m_rounded (m_quarters x_t x_b (-(m_point_of f))) (m_mode_of how) (decide (x_t < (0)))) % ((1) * 2 ^ ((m_width_of f) : Int).toNat)))) k (Same.trans (Same.trans (Same.trans (Same.trans (Same.trans (Same.trans (Same.trans (Same.trans (Same.trans s_2 s_4) s_6) s_8) s_78) s_81) s_83) s_85) s_104) (Same.new h_111)) upd_same (by unfold m_put_fixed; rw [if_neg c_9, if_pos c_79, if_neg c_86, if_neg c_105]; try rfl)
      · replace c_79 : ¬ ((m_is_whole (m_quarters x_t x_b (-(m_point_of f)))) = true) := ne_true_of_eq_false c_79
        refine ⟨_, rfl, _, rfl, _, rfl, trivial, fun H_112 s_113 => ?_⟩
        refine ⟨_, _, rfl, rfl, cshl (width_nn f) (m := 1) (by decide) (by have := width_lt f; omega), _, _, rfl, rfl, (one_pos _), _, rfl, _, rfl, _, rfl, hpre.2, fun H_114 s_115 => ?_⟩
        refine ⟨_, _, rfl, hpre.2, fun H_116 s_117 => ?_⟩
        refine ⟨_, rfl, _, _, rfl, rfl, _, rfl, ?_⟩
        refine iteB (fun c_118 => ?_) (fun c_118 => ?_)
        · replace c_118 : ((m_steps_of f (m_least_raw f)) ≤ (m_rounded (m_quarters x_t x_b (-(m_point_of f))) (m_mode_of how) (decide (x_t < (0))))) := of_decide_eq_true c_118
          refine ⟨_, rfl, _, rfl, _, rfl, hpre.2, fun H_119 s_120 => ?_⟩
          refine ⟨_, _, rfl, hpre.2, fun H_121 s_122 => ?_⟩
          refine ⟨_, _, rfl, rfl, _, rfl, ?_⟩
          refine iteB (fun c_123 => ?_) (fun c_123 => ?_)
          · replace c_123 : ((m_rounded (m_quarters x_t x_b (-(m_point_of f))) (m_mode_of how) (decide (x_t < (0)))) ≤ (m_steps_of f (m_greatest_raw f))) := of_decide_eq_true c_123
            refine ⟨_, rfl, _, rfl, (by show 2 ≤ sizeLine; decide), fun p_124 h_125 => ?_⟩
            exact leafP (u := ((1), ((m_rounded (m_quarters x_t x_b (-(m_point_of f))) (m_mode_of how) (decide (x_t < (0)))) % ((1) * 2 ^ ((m_width_of f) : Int).toNat)))) k (Same.trans (Same.trans (Same.trans (Same.trans (Same.trans (Same.trans (Same.trans (Same.trans (Same.trans (Same.trans s_2 s_4) s_6) s_8) s_78) s_113) s_115) s_117) s_120) s_122) (Same.new h_125)) upd_same (by unfold m_put_fixed; rw [if_neg c_9, if_neg c_79, if_pos c_118, if_pos c_123]; try rfl)
          · replace c_123 : ¬ ((m_rounded (m_quarters x_t x_b (-(m_point_of f))) (m_mode_of how) (decide (x_t < (0)))) ≤ (m_steps_of f (m_greatest_raw f))) := of_decide_eq_false c_123
            refine ⟨_, rfl, _, rfl, trivial, fun H_126 s_127 => ?_⟩
            refine ⟨_, rfl, ?_⟩
            refine iteB (fun c_128 => ?_) (fun c_128 => ?_)
            · replace c_128 : ((m_holds how) = true) := c_128
              refine ⟨_, _, rfl, rfl, _, rfl, _, rfl, _, _, rfl, hpre.2, fun H_129 s_130 => ?_⟩
              refine ⟨(by show 2 ≤ sizeLine; decide), fun p_131 h_132 => ?_⟩
              exact leafP (u := (((1) + (4)), (m_end_raw f (decide (x_t < (0)))))) k (Same.trans (Same.trans (Same.trans (Same.trans (Same.trans (Same.trans (Same.trans (Same.trans (Same.trans (Same.trans (Same.trans (Same.trans s_2 s_4) s_6) s_8) s_78) s_113) s_115) s_117) s_120) s_122) s_127) s_130) (Same.new h_132)) upd_same (by unfold m_put_fixed; rw [if_neg c_9, if_neg c_79, if_pos c_118, if_neg c_123, if_pos c_128]; try rfl)
            · replace c_128 : ¬ ((m_holds how) = true) := ne_true_of_eq_false c_128
              refine ⟨_, rfl, _, _, rfl, rfl, _, rfl, (by show 2 ≤ sizeLine; decide), fun p_133 h_134 => ?_⟩
              exact leafP (u := (((1) + (4)), ((m_rounded (m_quarters x_t x_b (-(m_point_of f))) (m_mode_of how) (decide (x_t < (0)))) % ((1) * 2 ^ ((m_width_of f) : Int).toNat)))) k (Same.trans (Same.trans (Same.trans (Same.trans (Same.trans (Same.trans (Same.trans (Same.trans (Same.trans (Same.trans (Same.trans s_2 s_4) s_6) s_8) s_78) s_113) s_115) s_117) s_120) s_122) s_127) (Same.new h_134)) upd_same (by unfold m_put_fixed; rw [if_neg c_9, if_neg c_79, if_pos c_118, if_neg c_123, if_neg c_128]; try rfl)
        · replace c_118 : ¬ ((m_steps_of f (m_least_raw f)) ≤ (m_rounded (m_quarters x_t x_b (-(m_point_of f))) (m_mode_of how) (decide (x_t < (0))))) := of_decide_eq_false c_118
          refine ⟨_, rfl, ?_⟩
          refine iteF ?_
          refine ⟨_, rfl, _, rfl, trivial, fun H_135 s_136 => ?_⟩
          refine ⟨_, rfl, ?_⟩
          refine iteB (fun c_137 => ?_) (fun c_137 => ?_)
          · replace c_137 : ((m_holds how) = true) := c_137
            refine ⟨_, _, rfl, rfl, _, rfl, _, rfl, _, _, rfl, hpre.2, fun H_138 s_139 => ?_⟩
            refine ⟨(by show 2 ≤ sizeLine; decide), fun p_140 h_141 => ?_⟩
            exact leafP (u := (((1) + (4)), (m_end_raw f (decide (x_t < (0)))))) k (Same.trans (Same.trans (Same.trans (Same.trans (Same.trans (Same.trans (Same.trans (Same.trans (Same.trans (Same.trans s_2 s_4) s_6) s_8) s_78) s_113) s_115) s_117) s_136) s_139) (Same.new h_141)) upd_same (by unfold m_put_fixed; rw [if_neg c_9, if_neg c_79, if_neg c_118, if_pos c_137]; try rfl)
          · replace c_137 : ¬ ((m_holds how) = true) := ne_true_of_eq_false c_137
            refine ⟨_, rfl, _, _, rfl, rfl, _, rfl, (by show 2 ≤ sizeLine; decide), fun p_142 h_143 => ?_⟩
            exact leafP (u := (((1) + (4)), ((m_rounded (m_quarters x_t x_b (-(m_point_of f))) (m_mode_of how) (decide (x_t < (0)))) % ((1) * 2 ^ ((m_width_of f) : Int).toNat)))) k (Same.trans (Same.trans (Same.trans (Same.trans (Same.trans (Same.trans (Same.trans (Same.trans (Same.trans s_2 s_4) s_6) s_8) s_78) s_113) s_115) s_117) s_136) (Same.new h_143)) upd_same (by unfold m_put_fixed; rw [if_neg c_9, if_neg c_79, if_neg c_118, if_neg c_137]; try rfl)
noncomputable def sp_put_float (C : Addr) : Sp := fun vs H Q _ => ∃ (x_p : Addr) (x_t x_b : Int) (f : Int) (mode : Int), vs = [.ref x_p, .int f, .int mode] ∧ RatAt C H x_p x_t x_b ∧ (RB x_t x_b ∧ m_is_format f = true ∧ m_kind_of f = 3) ∧ ∀ (H' : Hp) (p : Addr), Same H H' → H' p = some (.lst [.int (m_put_float x_t x_b f mode).1, .int (m_put_float x_t x_b f mode).2]) → Q (.ref p) H'
theorem bd_put_float (T : Txt K mg) : Binds K T.fd_put_float ["x", "f", "mode"] [] := T.F_put_float.binds (ps := ["x", "f", "mode"]) fun _ _ _ _ _ _ => on3 fun _ _ _ => rfl
theorem ok_put_float (T : Txt K mg) : FnOk P w K mg base CX0 7 T.f_put_float T.fd_put_float ["x", "f", "mode"] (sp_put_float T.a_Ratio) := by
  refine T.F_put_float.ok sc_put_float (fun vs H Q E h => ?_) (fun cdv A outer s H vs Q E hr h => ?_)
  · obtain ⟨x_p, x_t, x_b, f, mode, rfl, _⟩ := h
    rfl
  · obtain ⟨x_p, x_t, x_b, f, mode, rfl, h_x, hpre, k⟩ := h
    have W := isf_float hpre.2.1 hpre.2.2
    have fb := fbits W
    have lp := lplaces W
    have fp := fun z => float_place hpre.1 z fb.1 fb.2 lp.1 lp.2
    have lb := lead_bounds hpre.1
    refine ⟨_, (pss_cons (ps_if (pt_cmpR op_eqI (pe_fld (pv 0) rfl) pe_int (nomark _)) (pss_one (ps_ret (pe_lst (pa_cons pe_int (pa_cons pe_int pa_nil))))) pss_nil)
      (pss_cons (ps_set (i := 3) sc_put_float.nd rfl (Or.inl rfl) (pe_cmpR op_lt (pe_fld (pv 0) rfl) pe_int (nomark _)))
      (pss_cons (ps_set (i := 4) sc_put_float.nd rfl (Or.inl rfl) (pe_dgetK (hu_of hr) (pe_globE rfl T.c_FRACTION_BITS) (pe_call (ok_width_of T) (hr.mono (by decide)) rfl T.m_width_of T.F_width_of.kp (bd_width_of T) .nil pass0 (pa_cons (pv 1) pa_nil)) (fun _ _ => rfl)))
      (pss_cons (ps_set (i := 5) sc_put_float.nd rfl (Or.inl rfl) (pe_un un_neg (pe_dgetK (hu_of hr) (pe_globE rfl T.c_LOWEST_PLACES) (pe_call (ok_width_of T) (hr.mono (by decide)) rfl T.m_width_of T.F_width_of.kp (bd_width_of T) .nil pass0 (pa_cons (pv 1) pa_nil)) (fun _ _ => rfl))))
      (pss_cons (ps_set (i := 6) sc_put_float.nd rfl (Or.inl rfl) (pe_callB (call_max2 rfl) (by rfl) T.n_max (by decide +kernel) (pa_cons (pe_op op_sub (pe_call (ok_leading_place T) (hr.mono (by decide)) rfl T.m_leading_place T.F_leading_place.kp (bd_leading_place T) .nil pass0 (pa_cons (pv 0) pa_nil)) (pv 4)) (pa_cons (pv 5) pa_nil))))
      (pss_cons (ps_set (i := 7) sc_put_float.nd rfl (Or.inl rfl) (pe_call (ok_quarters T) (hr.mono (by decide)) rfl T.m_quarters T.F_quarters.kp (bd_quarters T) .nil pass0 (pa_cons (pv 0) (pa_cons (pv 6) pa_nil))))
      (pss_cons (ps_set (i := 8) sc_put_float.nd rfl (Or.inl rfl) (pe_op op_add (pe_call (ok_rounded T) (hr.mono (by decide)) rfl T.m_rounded T.F_rounded.kp (bd_rounded T) .nil pass0 (pa_cons (pv 7) (pa_cons (pv 2) (pa_cons (pv 3) pa_nil)))) (pe_op op_shlB (pe_op op_sub (pv 6) (pv 5)) (pv 4))))
      (pss_cons (ps_if (pt_cmpR op_gt (pv 8) (pe_call (ok_greatest_raw T) (hr.mono (by decide)) rfl T.m_greatest_raw T.F_greatest_raw.kp (bd_greatest_raw T) .nil pass0 (pa_cons (pv 1) pa_nil)) (nomark _)) (pss_one (ps_ret (pe_lst (pa_cons (pe_op op_add (pe_globE rfl T.c_INEXACT) (pe_globE rfl T.c_HELD)) (pa_cons (pe_call (ok_end_raw T) (hr.mono (by decide)) rfl T.m_end_raw T.F_end_raw.kp (bd_end_raw T) .nil pass0 (pa_cons (pv 1) (pa_cons (pv 3) pa_nil))) pa_nil))))) pss_nil)
      (pss_cons (ps_if (PW.pt (pw_and (pt_val (pv 3)) (pw_and1 (pt_cmpR op_gt (pv 8) pe_int (nomark _))))) (pss_one (ps_aug (i := 8) sc_put_float.nd rfl (Or.inl rfl) (pe_call (ok_sign_bit T) (hr.mono (by decide)) rfl T.m_sign_bit T.F_sign_bit.kp (bd_sign_bit T) .nil pass0 (pa_cons (pv 1) pa_nil)) (pip_of iop_add))) pss_nil)
      (pss_one (ps_ret (pe_lst (pa_cons (pe_ifExp (pt_val (pe_call (ok_is_whole T) (hr.mono (by decide)) rfl T.m_is_whole T.F_is_whole.kp (bd_is_whole T) .nil pass0 (pa_cons (pv 7) pa_nil))) pe_int (pe_globE rfl T.c_INEXACT)) (pa_cons (pv 8) pa_nil)))))))))))))), ?_⟩
    refine ⟨_, rfl, fld_top h_x T.cl_Ratio T.na_Ratio_top ?_⟩
    refine ⟨_, _, rfl, rfl, _, rfl, ?_⟩
    refine iteB (fun c_1 => ?_) (fun c_1 => ?_)
    · replace c_1 : (x_t = (0)) := of_decide_eq_true c_1
      refine ⟨(by show 2 ≤ sizeLine; decide), fun p_2 h_3 => ?_⟩
      exact leafP (u := ((0), (0))) k (Same.new h_3) upd_same (by unfold m_put_float; rw [if_pos c_1]; try rfl)
    · replace c_1 : ¬ (x_t = (0)) := of_decide_eq_false c_1
      refine ⟨_, rfl, fld_top h_x T.cl_Ratio T.na_Ratio_top ?_⟩
      refine ⟨_, _, rfl, rfl, _, rfl, _, rfl, trivial, fun H_4 s_5 => ?_⟩
      refine ⟨T.a_FRACTION_BITS, .int (dictI [(32, 23), (64, 52)] (m_width_of f)), rfl, _, _, T.q_FRACTION_BITS, rfl, (by rcases W with h | h <;> rw [h] <;> rfl), _, rfl, _, rfl, trivial, fun H_6 s_7 => ?_⟩
      refine ⟨T.a_LOWEST_PLACES, .int (dictI [(32, 149), (64, 1074)] (m_width_of f)), rfl, _, _, T.q_LOWEST_PLACES, rfl, (by rcases W with h | h <;> rw [h] <;> rfl), _, rfl, _, rfl, _, _, _, rfl, (RatAt.keep (Same.trans s_5 s_7) h_x), hpre.1, fun H_8 s_9 => ?_⟩
      refine ⟨_, rfl, _, _, rfl, rfl, _, rfl, _, _, rfl, _, rfl, _, rfl, _, _, _, _, rfl, (RatAt.keep (Same.trans (Same.trans s_5 s_7) s_9) h_x), ⟨hpre.1, (fp (by assumption)).1, (fp (by assumption)).2.1, (fp (by assumption)).2.2.1⟩, fun H_10 s_11 => ?_⟩
      refine ⟨_, rfl, _, rfl, _, rfl, _, _, _, rfl, trivial, fun H_12 s_13 => ?_⟩
      refine ⟨_, rfl, _, rfl, _, _, rfl, rfl, _, rfl, _, _, rfl, rfl, cshl fb.1 (m := 20) (Sz.lit (by have := fp (by assumption); omega)) (by omega), _, _, rfl, rfl, _, rfl, _, rfl, _, rfl, hpre.2.1, fun H_14 s_15 => ?_⟩
      refine ⟨_, _, rfl, rfl, _, rfl, ?_⟩
      refine iteB (fun c_16 => ?_) (fun c_16 => ?_)
      · replace c_16 : ((m_greatest_raw f) < ((m_rounded (m_quarters x_t x_b (maxI ((m_leading_place x_t x_b) - (dictI [(32, 23), (64, 52)] (m_width_of f))) (-(dictI [(32, 149), (64, 1074)] (m_width_of f))))) mode (decide (x_t < (0)))) + (((maxI ((m_leading_place x_t x_b) - (dictI [(32, 23), (64, 52)] (m_width_of f))) (-(dictI [(32, 149), (64, 1074)] (m_width_of f)))) - (-(dictI [(32, 149), (64, 1074)] (m_width_of f)))) * 2 ^ ((dictI [(32, 23), (64, 52)] (m_width_of f)) : Int).toNat))) := of_decide_eq_true c_16
        refine ⟨_, _, rfl, rfl, _, rfl, _, rfl, _, _, rfl, hpre.2.1, fun H_17 s_18 => ?_⟩
        refine ⟨(by show 2 ≤ sizeLine; decide), fun p_19 h_20 => ?_⟩
        exact leafP (u := (((1) + (4)), (m_end_raw f (decide (x_t < (0)))))) k (Same.trans (Same.trans (Same.trans (Same.trans (Same.trans (Same.trans (Same.trans s_5 s_7) s_9) s_11) s_13) s_15) s_18) (Same.new h_20)) upd_same (by unfold m_put_float; rw [if_neg c_1, if_pos c_16]; try rfl)
      · replace c_16 : ¬ ((m_greatest_raw f) < ((m_rounded (m_quarters x_t x_b (maxI ((m_leading_place x_t x_b) - (dictI [(32, 23), (64, 52)] (m_width_of f))) (-(dictI [(32, 149), (64, 1074)] (m_width_of f))))) mode (decide (x_t < (0)))) + (((maxI ((m_leading_place x_t x_b) - (dictI [(32, 23), (64, 52)] (m_width_of f))) (-(dictI [(32, 149), (64, 1074)] (m_width_of f)))) - (-(dictI [(32, 149), (64, 1074)] (m_width_of f)))) * 2 ^ ((dictI [(32, 23), (64, 52)] (m_width_of f)) : Int).toNat))) := of_decide_eq_false c_16
        refine ⟨_, rfl, _, rfl, ?_⟩
        refine iteB (fun c_21 => ?_) (fun c_21 => ?_)
        · replace c_21 : (x_t < (0)) := of_decide_eq_true c_21
          refine ⟨_, rfl, _, _, rfl, rfl, _, rfl, ?_⟩
          refine iteB (fun c_22 => ?_) (fun c_22 => ?_)
          · replace c_22 : ((0) < ((m_rounded (m_quarters x_t x_b (maxI ((m_leading_place x_t x_b) - (dictI [(32, 23), (64, 52)] (m_width_of f))) (-(dictI [(32, 149), (64, 1074)] (m_width_of f))))) mode (decide (x_t < (0)))) + (((maxI ((m_leading_place x_t x_b) - (dictI [(32, 23), (64, 52)] (m_width_of f))) (-(dictI [(32, 149), (64, 1074)] (m_width_of f)))) - (-(dictI [(32, 149), (64, 1074)] (m_width_of f)))) * 2 ^ ((dictI [(32, 23), (64, 52)] (m_width_of f)) : Int).toNat))) := of_decide_eq_true c_22
            refine ⟨_, rfl, _, rfl, _, rfl, (isf_pos hpre.2.1), fun H_23 s_24 => ?_⟩
            refine ⟨_, _, rfl, rfl, _, rfl, _, rfl, trivial, fun H_25 s_26 => ?_⟩
            refine ⟨_, rfl, ?_⟩
            refine iteB (fun c_27 => ?_) (fun c_27 => ?_)
            · replace c_27 : ((m_is_whole (m_quarters x_t x_b (maxI ((m_leading_place x_t x_b) - (dictI [(32, 23), (64, 52)] (m_width_of f))) (-(dictI [(32, 149), (64, 1074)] (m_width_of f)))))) = true) := c_27
              refine ⟨_, rfl, (by show 2 ≤ sizeLine; decide), fun p_28 h_29 => ?_⟩
              exact leafP (u := ((0), (((m_rounded (m_quarters x_t x_b (maxI ((m_leading_place x_t x_b) - (dictI [(32, 23), (64, 52)] (m_width_of f))) (-(dictI [(32, 149), (64, 1074)] (m_width_of f))))) mode (decide (x_t < (0)))) + (((maxI ((m_leading_place x_t x_b) - (dictI [(32, 23), (64, 52)] (m_width_of f))) (-(dictI [(32, 149), (64, 1074)] (m_width_of f)))) - (-(dictI [(32, 149), (64, 1074)] (m_width_of f)))) * 2 ^ ((dictI [(32, 23), (64, 52)] (m_width_of f)) : Int).toNat)) + (m_sign_bit f)))) k (Same.trans (Same.trans (Same.trans (Same.trans (Same.trans (Same.trans (Same.trans (Same.trans s_5 s_7) s_9) s_11) s_13) s_15) s_24) s_26) (Same.new h_29)) upd_same (by unfold m_put_float; rw [if_neg c_1, if_neg c_16, if_pos c_21, if_pos c_22, if_pos c_27]; try rfl)
            · replace c_27 : ¬ ((m_is_whole (m_quarters x_t x_b (maxI ((m_leading_place x_t x_b) - (dictI [(32, 23), (64, 52)] (m_width_of f))) (-(dictI [(32, 149), (64, 1074)] (m_width_of f)))))) = true) := ne_true_of_eq_false c_27
              refine ⟨_, rfl, (by show 2 ≤ sizeLine; decide), fun p_30 h_31 => ?_⟩
              exact leafP (u := ((1), (((m_rounded (m_quarters x_t x_b (maxI ((m_leading_place x_t x_b) - (dictI [(32, 23), (64, 52)] (m_width_of f))) (-(dictI [(32, 149), (64, 1074)] (m_width_of f))))) mode (decide (x_t < (0)))) + (((maxI ((m_leading_place x_t x_b) - (dictI [(32, 23), (64, 52)] (m_width_of f))) (-(dictI [(32, 149), (64, 1074)] (m_width_of f)))) - (-(dictI [(32, 149), (64, 1074)] (m_width_of f)))) * 2 ^ ((dictI [(32, 23), (64, 52)] (m_width_of f)) : Int).toNat)) + (m_sign_bit f)))) k (Same.trans (Same.trans (Same.trans (Same.trans (Same.trans (Same.trans (Same.trans (Same.trans s_5 s_7) s_9) s_11) s_13) s_15) s_24) s_26) (Same.new h_31)) upd_same (by unfold m_put_float; rw [if_neg c_1, if_neg c_16, if_pos c_21, if_pos c_22, if_neg c_27]; try rfl)
          · replace c_22 : ¬ ((0) < ((m_rounded (m_quarters x_t x_b (maxI ((m_leading_place x_t x_b) - (dictI [(32, 23), (64, 52)] (m_width_of f))) (-(dictI [(32, 149), (64, 1074)] (m_width_of f))))) mode (decide (x_t < (0)))) + (((maxI ((m_leading_place x_t x_b) - (dictI [(32, 23), (64, 52)] (m_width_of f))) (-(dictI [(32, 149), (64, 1074)] (m_width_of f)))) - (-(dictI [(32, 149), (64, 1074)] (m_width_of f)))) * 2 ^ ((dictI [(32, 23), (64, 52)] (m_width_of f)) : Int).toNat))) := of_decide_eq_false c_22
            refine ⟨_, rfl, _, rfl, trivial, fun H_32 s_33 => ?_⟩
            refine ⟨_, rfl, ?_⟩
            refine iteB (fun c_34 => ?_) (fun c_34 => ?_)
            · replace c_34 : ((m_is_whole (m_quarters x_t x_b (maxI ((m_leading_place x_t x_b) - (dictI [(32, 23), (64, 52)] (m_width_of f))) (-(dictI [(32, 149), (64, 1074)] (m_width_of f)))))) = true) := c_34
              refine ⟨_, rfl, (by show 2 ≤ sizeLine; decide), fun p_35 h_36 => ?_⟩
              exact leafP (u := ((0), ((m_rounded (m_quarters x_t x_b (maxI ((m_leading_place x_t x_b) - (dictI [(32, 23), (64, 52)] (m_width_of f))) (-(dictI [(32, 149), (64, 1074)] (m_width_of f))))) mode (decide (x_t < (0)))) + (((maxI ((m_leading_place x_t x_b) - (dictI [(32, 23), (64, 52)] (m_width_of f))) (-(dictI [(32, 149), (64, 1074)] (m_width_of f)))) - (-(dictI [(32, 149), (64, 1074)] (m_width_of f)))) * 2 ^ ((dictI [(32, 23), (64, 52)] (m_width_of f)) : Int).toNat)))) k (Same.trans (Same.trans (Same.trans (Same.trans (Same.trans (Same.trans (Same.trans s_5 s_7) s_9) s_11) s_13) s_15) s_33) (Same.new h_36)) upd_same (by unfold m_put_float; rw [if_neg c_1, if_neg c_16, if_pos c_21, if_neg c_22, if_pos c_34]; try rfl)
            · replace c_34 : ¬ ((m_is_whole (m_quarters x_t x_b (maxI ((m_leading_place x_t x_b) - (dictI [(32, 23), (64, 52)] (m_width_of f))) (-(dictI [(32, 149), (64, 1074)] (m_width_of f)))))) = true) := ne_true_of_eq_false c_34
              refine ⟨_, rfl, (by show 2 ≤ sizeLine; decide), fun p_37 h_38 => ?_⟩
              exact leafP (u := ((1), ((m_rounded (m_quarters x_t x_b (maxI ((m_leading_place x_t x_b) - (dictI [(32, 23), (64, 52)] (m_width_of f))) (-(dictI [(32, 149), (64, 1074)] (m_width_of f))))) mode (decide (x_t < (0)))) + (((maxI ((m_leading_place x_t x_b) - (dictI [(32, 23), (64, 52)] (m_width_of f))) (-(dictI [(32, 149), (64, 1074)] (m_width_of f)))) - (-(dictI [(32, 149), (64, 1074)] (m_width_of f)))) * 2 ^ ((dictI [(32, 23), (64, 52)] (m_width_of f)) : Int).toNat)))) k (Same.trans (Same.trans (Same.trans (Same.trans (Same.trans (Same.trans (Same.trans s_5 s_7) s_9) s_11) s_13) s_15) s_33) (Same.new h_38)) upd_same (by unfold m_put_float; rw [if_neg c_1, if_neg c_16, if_pos c_21, if_neg c_22, if_neg c_34]; try rfl)
        · replace c_21 : ¬ (x_t < (0)) := of_decide_eq_false c_21
          refine iteF ?_
          refine ⟨_, rfl, _, rfl, trivial, fun H_39 s_40 => ?_⟩
          refine ⟨_, rfl, ?_⟩
          refine iteB (fun c_41 => ?_) (fun c_41 => ?_)
          · replace c_41 : ((m_is_whole (m_quarters x_t x_b (maxI ((m_leading_place x_t x_b) - (dictI [(32, 23), (64, 52)] (m_width_of f))) (-(dictI [(32, 149), (64, 1074)] (m_width_of f)))))) = true) := c_41
            refine ⟨_, rfl, (by show 2 ≤ sizeLine; decide), fun p_42 h_43 => ?_⟩
            exact leafP (u := ((0), ((m_rounded (m_quarters x_t x_b (maxI ((m_leading_place x_t x_b) - (dictI [(32, 23), (64, 52)] (m_width_of f))) (-(dictI [(32, 149), (64, 1074)] (m_width_of f))))) mode (decide (x_t < (0)))) + (((maxI ((m_leading_place x_t x_b) - (dictI [(32, 23), (64, 52)] (m_width_of f))) (-(dictI [(32, 149), (64, 1074)] (m_width_of f)))) - (-(dictI [(32, 149), (64, 1074)] (m_width_of f)))) * 2 ^ ((dictI [(32, 23), (64, 52)] (m_width_of f)) : Int).toNat)))) k (Same.trans (Same.trans (Same.trans (Same.trans (Same.trans (Same.trans (Same.trans s_5 s_7) s_9) s_11) s_13) s_15) s_40) (Same.new h_43)) upd_same (by unfold m_put_float; rw [if_neg c_1, if_neg c_16, if_neg c_21, if_pos c_41]; try rfl)
          · replace c_41 : ¬ ((m_is_whole (m_quarters x_t x_b (maxI ((m_leading_place x_t x_b) - (dictI [(32, 23), (64, 52)] (m_width_of f))) (-(dictI [(32, 149), (64, 1074)] (m_width_of f)))))) = true) := ne_true_of_eq_false c_41
            refine ⟨_, rfl, (by show 2 ≤ sizeLine; decide), fun p_44 h_45 => ?_⟩
            exact leafP (u := ((1), ((m_rounded (m_quarters x_t x_b (maxI ((m_leading_place x_t x_b) - (dictI [(32, 23), (64, 52)] (m_width_of f))) (-(dictI [(32, 149), (64, 1074)] (m_width_of f))))) mode (decide (x_t < (0)))) + (((maxI ((m_leading_place x_t x_b) - (dictI [(32, 23), (64, 52)] (m_width_of f))) (-(dictI [(32, 149), (64, 1074)] (m_width_of f)))) - (-(dictI [(32, 149), (64, 1074)] (m_width_of f)))) * 2 ^ ((dictI [(32, 23), (64, 52)] (m_width_of f)) : Int).toNat)))) k (Same.trans (Same.trans (Same.trans (Same.trans (Same.trans (Same.trans (Same.trans s_5 s_7) s_9) s_11) s_13) s_15) s_40) (Same.new h_45)) upd_same (by unfold m_put_float; rw [if_neg c_1, if_neg c_16, if_neg c_21, if_neg c_41]; try rfl)
noncomputable def sp_put_ratio (C : Addr) : Sp := fun vs H Q _ => ∃ (x_p : Addr) (x_t x_b : Int) (f : Int) (how : Int), vs = [.ref x_p, .int f, .int how] ∧ RatAt C H x_p x_t x_b ∧ (RB x_t x_b ∧ m_is_format f = true) ∧ ∀ (H' : Hp) (p : Addr), Same H H' → H' p = some (.lst [.int (m_put_ratio x_t x_b f how).1, .int (m_put_ratio x_t x_b f how).2]) → Q (.ref p) H'
theorem bd_put_ratio (T : Txt K mg) : Binds K T.fd_put_ratio ["x", "f", "how"] [] := T.F_put_ratio.binds (ps := ["x", "f", "how"]) fun _ _ _ _ _ _ => on3 fun _ _ _ => rfl
theorem ok_put_ratio (T : Txt K mg) : FnOk P w K mg base CX0 8 T.f_put_ratio T.fd_put_ratio ["x", "f", "how"] (sp_put_ratio T.a_Ratio) := by
  refine T.F_put_ratio.ok sc_put_ratio (fun vs H Q E h => ?_) (fun cdv A outer s H vs Q E hr h => ?_)
  · obtain ⟨x_p, x_t, x_b, f, how, rfl, _⟩ := h
    rfl
  · obtain ⟨x_p, x_t, x_b, f, how, rfl, h_x, hpre, k⟩ := h
    refine ⟨_, (pss_cons (ps_set (i := 3) sc_put_ratio.nd rfl (Or.inl rfl) (pe_call (ok_kind_of T) (hr.mono (by decide)) rfl T.m_kind_of T.F_kind_of.kp (bd_kind_of T) .nil pass0 (pa_cons (pv 1) pa_nil)))
      (pss_cons (ps_if (pt_cmpR op_eqI (pv 3) (pe_globE rfl T.c_TRUTH) (nomark _)) (pss_one (ps_ret (pe_lst (pa_cons pe_int (pa_cons (pe_ifExp (pt_cmpR op_eqI (pe_fld (pv 0) rfl) pe_int (nomark _)) pe_int pe_int) pa_nil))))) pss_nil)
      (pss_cons (ps_if (pt_cmpR op_eqI (pv 3) (pe_globE rfl T.c_FLOAT) (nomark _)) (pss_one (ps_ret (pe_call (ok_put_float T) (hr.mono (by decide)) rfl T.m_put_float T.F_put_float.kp (bd_put_float T) .nil pass0 (pa_cons (pv 0) (pa_cons (pv 1) (pa_cons (pe_call (ok_mode_of T) (hr.mono (by decide)) rfl T.m_mode_of T.F_mode_of.kp (bd_mode_of T) .nil pass0 (pa_cons (pv 2) pa_nil)) pa_nil)))))) pss_nil)
      (pss_one (ps_ret (pe_call (ok_put_fixed T) (hr.mono (by decide)) rfl T.m_put_fixed T.F_put_fixed.kp (bd_put_fixed T) .nil pass0 (pa_cons (pv 0) (pa_cons (pv 1) (pa_cons (pv 2) pa_nil))))))))), ?_⟩
    refine ⟨_, rfl, _, rfl, trivial, fun H_1 s_2 => ?_⟩
    refine ⟨_, rfl, _, _, rfl, rfl, _, rfl, ?_⟩
    refine iteB (fun c_3 => ?_) (fun c_3 => ?_)
    · replace c_3 : ((m_kind_of f) = (0)) := of_decide_eq_true c_3
      refine ⟨_, rfl, fld_top (RatAt.keep s_2 h_x) T.cl_Ratio T.na_Ratio_top ?_⟩
      refine ⟨_, _, rfl, rfl, _, rfl, ?_⟩
      refine iteB (fun c_4 => ?_) (fun c_4 => ?_)
      · replace c_4 : (x_t = (0)) := of_decide_eq_true c_4
        refine ⟨(by show 2 ≤ sizeLine; decide), fun p_5 h_6 => ?_⟩
        exact leafP (u := ((0), (0))) k (Same.trans s_2 (Same.new h_6)) upd_same (by unfold m_put_ratio; rw [if_pos c_3, if_pos c_4]; try rfl)
      · replace c_4 : ¬ (x_t = (0)) := of_decide_eq_false c_4
        refine ⟨(by show 2 ≤ sizeLine; decide), fun p_7 h_8 => ?_⟩
        exact leafP (u := ((0), (1))) k (Same.trans s_2 (Same.new h_8)) upd_same (by unfold m_put_ratio; rw [if_pos c_3, if_neg c_4]; try rfl)
    · replace c_3 : ¬ ((m_kind_of f) = (0)) := of_decide_eq_false c_3
      refine ⟨_, rfl, _, _, rfl, rfl, _, rfl, ?_⟩
      refine iteB (fun c_9 => ?_) (fun c_9 => ?_)
      · replace c_9 : ((m_kind_of f) = (3)) := of_decide_eq_true c_9
        refine ⟨_, rfl, _, rfl, _, rfl, _, rfl, trivial, fun H_10 s_11 => ?_⟩
        refine ⟨_, _, _, _, _, rfl, (RatAt.keep (Same.trans s_2 s_11) h_x), ⟨hpre.1, hpre.2, (by assumption)⟩, fun H_12 p_14 s_13 h_15 => ?_⟩
        exact leafP (u := (m_put_float x_t x_b f (m_mode_of how))) k (Same.trans (Same.trans s_2 s_11) s_13) h_15 (by unfold m_put_ratio; rw [if_neg c_3, if_pos c_9]; try rfl)
      · replace c_9 : ¬ ((m_kind_of f) = (3)) := of_decide_eq_false c_9
        refine ⟨_, rfl, _, rfl, _, rfl, _, _, _, _, _, rfl, (RatAt.keep s_2 h_x), hpre, fun H_16 p_18 s_17 h_19 => ?_⟩
        exact leafP (u := (m_put_fixed x_t x_b f how)) k (Same.trans s_2 s_17) h_19 (by unfold m_put_ratio; rw [if_neg c_3, if_neg c_9]; try rfl)
noncomputable def sp_are_good (K : PySem.W.Frag) : Sp := fun vs H Q _ => ∃ (c : Int) (raws_p : Addr) (raws : List Int), vs = [.int c, .ref raws_p] ∧ SqL K H raws_p (raws.map V.int) ∧ (raws.length ≤ 256) ∧ ∀ H' : Hp, Same H H' → Q (.bl (m_are_good c raws)) H'
theorem bd_are_good (T : Txt K mg) : Binds K T.fd_are_good ["c", "raws"] [] := T.F_are_good.binds (ps := ["c", "raws"]) fun _ _ _ _ _ _ => on2 fun _ _ => rfl
theorem ok_are_good (T : Txt K mg) : FnOk P w K mg base CX0 5 T.f_are_good T.fd_are_good ["c", "raws"] (sp_are_good K) := by
  refine T.F_are_good.ok sc_are_good (fun vs H Q E h => ?_) (fun cdv A outer s H vs Q E hr h => ?_)
  · obtain ⟨c, a, l, rfl, _⟩ := h
    rfl
  · obtain ⟨c, a, l, rfl, hS, hl, k⟩ := h
    refine ⟨_, (pss_one (ps_ret (pe_and (pe_call (ok_is_format T) (hr.mono (by decide)) rfl T.m_is_format T.F_is_format.kp (bd_is_format T) .nil pass0 (pa_cons (pv 0) pa_nil)) (pe_one (pe_callB (cr_all rfl) (by rfl) T.n_all (by decide +kernel) (pa_cons (pe_lc (own := [("r", 2)]) rfl sc_are_good.nd (pi_list (pv 1)) (blkOk_by (by rfl)) (fun _ _ _ _ _ => (pg_name (i := 2) sc_are_good.nd rfl (Or.inl rfl))) (fun _ _ _ _ _ => pts_nil) (fun _ _ _ _ _ => (pe_call (ok_is_good T) (hr.mono (by decide)) rfl T.m_is_good T.F_is_good.kp (bd_is_good T) .nil pass0 (pa_cons (pv 0) (pa_cons (pv 2) pa_nil))))) pa_nil)))))), ?_⟩
    refine ⟨_, rfl, _, rfl, trivial, fun H1 s1 => ?_⟩
    refine ⟨_, rfl, ?_⟩
    refine iteB (fun c1 => ?_) (fun c1 => ?_)
    · have hS1 := s1.seq hS
      refine ⟨_, rfl, a, rfl, ⟨_, hS1⟩, fun D hD => ?_⟩
      refine lc_list (K := K) (a := a) (xs := l.map V.int) (fun i H' => Same H1 H' ∧ H' D = some (.lst (((l.map fun r => m_is_good c r).take i).map V.bl))) ⟨Same.new hD, upd_same⟩ (fun i H' _ h => h.1.seq hS1) ?_ ?_
      · rintro i y H' hi ⟨sP, hP⟩
        obtain ⟨z, hz, rfl⟩ : ∃ z, l[i]? = some z ∧ y = V.int z := by
          rw [List.getElem?_map] at hi
          cases e : l[i]? with
          | none => rw [e] at hi; cases hi
          | some z => rw [e] at hi; exact ⟨z, rfl, (Option.some.inj hi).symm⟩
        have hz2 : (l.map fun r => m_is_good c r)[i]? = some (m_is_good c z) := by rw [List.getElem?_map, hz]; rfl
        refine ⟨rfl, _, rfl, _, rfl, _, _, rfl, c1, fun H2 s2 => ?_⟩
        refine ⟨_, s2 _ _ hP, ?_, ?_, ?_⟩
        · rw [List.length_map, List.length_take, List.length_map]; exact Nat.lt_of_le_of_lt (Nat.le_trans (Nat.min_le_right _ _) hl) (by decide)
        · intro b o e
          rw [upd_ne (ne_of_none e hD)]; exact s2 _ _ (sP b o e)
        · rw [upd_same, take_snoc2 hz2, List.map_append]; rfl
      · rintro H' ⟨sP, hP⟩
        rw [List.length_map, show l.length = (l.map fun r => m_is_good c r).length by rw [List.length_map], List.take_length] at hP
        refine ⟨D, l.map fun r => m_is_good c r, rfl, SqL.of hP, ?_⟩
        refine leaf k (Same.trans s1 sP) (congrArg V.bl ?_)
        unfold m_are_good
        rw [if_pos c1, List.all_map]
        rfl
    · refine leaf k s1 (congrArg V.bl ?_)
      unfold m_are_good
      rw [if_neg (ne_true_of_eq_false c1)]
noncomputable def sp_may_look_up (K : PySem.W.Frag) : Sp := fun vs H Q _ => ∃ (xc : Int) (yc : Int) (xs_p : Addr) (xs : List Int) (ys_p : Addr) (ys : List Int), vs = [.int xc, .int yc, .ref xs_p, .ref ys_p] ∧ SqL K H xs_p (xs.map V.int) ∧ SqL K H ys_p (ys.map V.int) ∧ (True) ∧ ∀ H' : Hp, Same H H' → Q (.bl (m_may_look_up xc yc xs ys)) H'
theorem bd_may_look_up (T : Txt K mg) : Binds K T.fd_may_look_up ["xc", "yc", "xs", "ys"] [] := T.F_may_look_up.binds (ps := ["xc", "yc", "xs", "ys"]) fun _ _ _ _ _ _ => on4 fun _ _ _ _ => rfl
theorem ok_may_look_up (T : Txt K mg) : FnOk P w K mg base CX0 6 T.f_may_look_up T.fd_may_look_up ["xc", "yc", "xs", "ys"] (sp_may_look_up K) := by
  refine T.F_may_look_up.ok sc_may_look_up (fun vs H Q E h => ?_) (fun cdv A outer s H vs Q E hr h => ?_)
  · obtain ⟨xc, yc, xs_p, xs, ys_p, ys, rfl, _⟩ := h
    rfl
  · obtain ⟨xc, yc, xs_p, xs, ys_p, ys, rfl, h_xs, h_ys, hpre, k⟩ := h
    refine ⟨_, (pss_cons (ps_if (PW.pt (pw_or (pt_cmpR op_neI (pe_callB call_lenI (by rfl) T.n_len (by decide +kernel) (pa_cons (pv 2) pa_nil)) (pe_callB call_lenI (by rfl) T.n_len (by decide +kernel) (pa_cons (pv 3) pa_nil)) (nomark _)) (pw_or1 (pt_not (pt_chain op_le op_le pe_int (pe_callB call_lenI (by rfl) T.n_len (by decide +kernel) (pa_cons (pv 2) pa_nil)) (pe_globE rfl T.c_MOST_POINTS)))))) (pss_one (ps_ret pe_bl)) pss_nil)
      (pss_one (ps_ret (pe_and (pe_call (ok_are_good T) (hr.mono (by decide)) rfl T.m_are_good T.F_are_good.kp (bd_are_good T) .nil pass0 (pa_cons (pv 0) (pa_cons (pv 2) pa_nil))) (pe_one (pe_call (ok_are_good T) (hr.mono (by decide)) rfl T.m_are_good T.F_are_good.kp (bd_are_good T) .nil pass0 (pa_cons (pv 1) (pa_cons (pv 3) pa_nil)))))))), ?_⟩
    refine ⟨_, rfl, _, xs, rfl, h_xs, _, rfl, _, ys, rfl, h_ys, _, _, rfl, rfl, _, rfl, ?_⟩
    refine iteB (fun c_1 => ?_) (fun c_1 => ?_)
    · replace c_1 : (¬ ((xs.length : Nat) : Int) = ((ys.length : Nat) : Int)) := of_decide_eq_true c_1
      refine iteT ?_
      exact leaf k Same.refl2 (congrArg V.bl (by unfold m_may_look_up; rw [if_pos c_1]; try rfl))
    · replace c_1 : ¬ (¬ ((xs.length : Nat) : Int) = ((ys.length : Nat) : Int)) := of_decide_eq_false c_1
      refine ⟨_, rfl, _, xs, rfl, h_xs, _, _, rfl, rfl, _, rfl, ?_⟩
      refine iteB (fun c_2 => ?_) (fun c_2 => ?_)
      · replace c_2 : ((1) ≤ ((xs.length : Nat) : Int)) := of_decide_eq_true c_2
        refine ⟨_, _, rfl, rfl, _, rfl, ?_⟩
        refine iteB (fun c_3 => ?_) (fun c_3 => ?_)
        · replace c_3 : ¬ (((xs.length : Nat) : Int) ≤ (256)) := of_decide_eq_false (not_t c_3)
          exact leaf k Same.refl2 (congrArg V.bl (by unfold m_may_look_up; rw [if_neg c_1, if_pos c_2, if_neg c_3]; try rfl))
        · replace c_3 : (((xs.length : Nat) : Int) ≤ (256)) := of_decide_eq_true (not_f c_3)
          refine ⟨_, rfl, _, rfl, _, _, xs, rfl, h_xs, (by omega), fun H_4 s_5 => ?_⟩
          refine ⟨_, rfl, ?_⟩
          refine iteB (fun c_6 => ?_) (fun c_6 => ?_)
          · replace c_6 : ((m_are_good xc xs) = true) := c_6
            refine ⟨_, rfl, _, rfl, _, _, ys, rfl, (Same.seq s_5 h_ys), (by omega), fun H_7 s_8 => ?_⟩
            exact leaf k (Same.trans s_5 s_8) (congrArg V.bl (by unfold m_may_look_up; rw [if_neg c_1, if_pos c_2, if_pos c_3, if_pos c_6]; try rfl))
          · replace c_6 : ¬ ((m_are_good xc xs) = true) := ne_true_of_eq_false c_6
            exact leaf k s_5 (congrArg V.bl (by unfold m_may_look_up; rw [if_neg c_1, if_pos c_2, if_pos c_3, if_neg c_6]; try rfl))
      · replace c_2 : ¬ ((1) ≤ ((xs.length : Nat) : Int)) := of_decide_eq_false c_2
        refine ⟨_, rfl, ?_⟩
        refine iteT ?_
        exact leaf k Same.refl2 (congrArg V.bl (by unfold m_may_look_up; rw [if_neg c_1, if_neg c_2]; try rfl))
noncomputable def sp_worths_of (K : PySem.W.Frag) (C : Addr) : Sp := fun vs H Q _ => ∃ (c : Int) (raws_p : Addr) (raws : List Int), vs = [.int c, .ref raws_p] ∧ SqL K H raws_p (raws.map V.int) ∧ (raws.length ≤ 256 ∧ m_are_good c raws = true) ∧ ∀ (H' : Hp) (p : Addr), Same H H' → RatsAt C H' p (raws.map (m_worth_of c)) → Q (.ref p) H'
theorem bd_worths_of (T : Txt K mg) : Binds K T.fd_worths_of ["c", "raws"] [] := T.F_worths_of.binds (ps := ["c", "raws"]) fun _ _ _ _ _ _ => on2 fun _ _ => rfl
theorem ok_worths_of (T : Txt K mg) : FnOk P w K mg base CX0 5 T.f_worths_of T.fd_worths_of ["c", "raws"] (sp_worths_of K T.a_Ratio) := by
  refine T.F_worths_of.ok sc_worths_of (fun vs H Q E h => ?_) (fun cdv A outer s H vs Q E hr h => ?_)
  · obtain ⟨c, a, l, rfl, _⟩ := h
    rfl
  · obtain ⟨c, a, l, rfl, hS, ⟨hl, hg⟩, k⟩ := h
    have hR := good_raws hg
    refine ⟨_, (pss_one (ps_ret (pe_lc (own := [("r", 2)]) rfl sc_worths_of.nd (pi_list (pv 1)) (blkOk_by (by rfl)) (fun _ _ _ _ _ => (pg_name (i := 2) sc_worths_of.nd rfl (Or.inl rfl))) (fun _ _ _ _ _ => pts_nil) (fun _ _ _ _ _ => (pe_call (ok_worth_of T) (hr.mono (by decide)) rfl T.m_worth_of T.F_worth_of.kp (bd_worth_of T) .nil pass0 (pa_cons (pv 0) (pa_cons (pv 2) pa_nil))))))), ?_⟩
    refine ⟨_, rfl, a, rfl, ⟨_, hS⟩, fun D hD => ?_⟩
    refine lc_list (K := K) (a := a) (xs := l.map V.int) (fun i H' => Same H H' ∧ RatsAt T.a_Ratio H' D ((l.map (m_worth_of c)).take i)) ⟨Same.new hD, [], upd_same, rfl, fun i p h => by simp at h⟩ (fun i H' _ h => h.1.seq hS) ?_ ?_
    · rintro i y H' hi ⟨sP, hP⟩
      obtain ⟨z, hz, rfl⟩ : ∃ z, l[i]? = some z ∧ y = V.int z := by
        rw [List.getElem?_map] at hi
        cases e : l[i]? with
        | none => rw [e] at hi; cases hi
        | some z => rw [e] at hi; exact ⟨z, rfl, (Option.some.inj hi).symm⟩
      have hz2 : (l.map (m_worth_of c))[i]? = some (m_worth_of c z) := by rw [List.getElem?_map, hz]; rfl
      refine ⟨rfl, _, rfl, _, rfl, _, _, rfl, raw_fmt (hR z (List.mem_of_getElem? hz)), fun H2 p2 s2 h2 => ?_⟩
      obtain ⟨acc, e1, e2, e3⟩ := (hP.keep s2).snoc (q := m_worth_of c z) h2
      refine ⟨acc, e1, ?_, ?_, ?_⟩
      · rw [e2, List.length_take, List.length_map]; exact Nat.lt_of_le_of_lt (Nat.le_trans (Nat.min_le_right _ _) hl) (by decide)
      · intro b o e
        rw [upd_ne (ne_of_none e hD)]; exact s2 _ _ (sP b o e)
      · rw [take_snoc2 hz2]; exact e3
    · rintro H' ⟨sP, hP⟩
      rw [List.length_map, show l.length = (l.map (m_worth_of c)).length by rw [List.length_map], List.take_length] at hP
      exact k _ _ sP hP
noncomputable def sp_rise (C : Addr) : Sp := fun vs H Q _ => ∃ (a : Addr) (ps : List (Int × Int)), vs = [.ref a] ∧ RatsAt C H a ps ∧ (1 ≤ ps.length ∧ ps.length ≤ 256 ∧ ∀ p ∈ ps, GV p) ∧ ∀ H' : Hp, Same H H' → Q (.bl (m_rise ps)) H'
theorem bd_rise (T : Txt K mg) : Binds K T.fd_rise ["worths"] [] := T.F_rise.binds (ps := ["worths"]) fun _ _ _ _ _ _ => on1 fun _ => rfl
theorem ok_rise (T : Txt K mg) : FnOk P w K mg base CX0 2 T.f_rise T.fd_rise ["worths"] (sp_rise T.a_Ratio) := by
  refine T.F_rise.ok sc_rise (fun vs H Q E h => ?_) (fun cdv A outer s H vs Q E hr h => ?_)
  · obtain ⟨a, ps, rfl, _⟩ := h
    rfl
  · obtain ⟨a, ps, rfl, hS, ⟨h1, hl, hg⟩, k⟩ := h
    refine ⟨_, (pss_one (ps_ret (pe_callB (cr_all rfl) (by rfl) T.n_all (by decide +kernel) (pa_cons (pe_lc (own := [("place", 1)]) rfl sc_rise.nd (pi_range1 rfl T.n_range (pa_cons (pe_op op_sub (pe_callB call_len_seq (by rfl) T.n_len (by decide +kernel) (pa_cons (pv 0) pa_nil)) pe_int) pa_nil)) (blkOk_by (by rfl)) (fun _ _ _ _ _ => (pg_name (i := 1) sc_rise.nd rfl (Or.inl rfl))) (fun _ _ _ _ _ => pts_nil) (fun _ _ _ _ _ => (pe_call (ok_is_less T) (hr.mono (by decide)) rfl T.m_is_less T.F_is_less.kp (bd_is_less T) .nil pass0 (pa_cons (pe_ix (ix_listK (K := K) rfl) (pv 0) (pv 1) (fun _ _ => rfl)) (pa_cons (pe_ix (ix_listK (K := K) rfl) (pv 0) (pe_op op_add (pv 1) pe_int) (fun _ _ => rfl)) pa_nil))))) pa_nil)))), ?_⟩
    obtain ⟨us, hu, ul⟩ := hS.len (K := K)
    have nn : ((us.length : Nat) : Int) - 1 = ((ps.length - 1 : Nat) : Int) := by omega
    refine ⟨_, rfl, _, us, rfl, .inl hu, _, _, rfl, rfl, _, rfl, by omega, by omega, fun D hD => ?_⟩
    refine lc_range (lo := 0) (fun i H' => Same H H' ∧ H' D = some (.lst (((rbOf ps).take i).map V.bl))) ⟨Same.new hD, upd_same⟩ ?_ ?_
    · rintro i H' hi ⟨sP, hP⟩
      have hi2 : i + 1 < ps.length := by omega
      obtain ⟨x, hx⟩ := getp (l := ps) (i := i) (by omega)
      obtain ⟨y, hy⟩ := getp (l := ps) (i := i + 1) hi2
      have hS1 := hS.keep sP
      obtain ⟨u1, c1, q1, _, g1, r1⟩ := hS1.get (K := K) hx
      obtain ⟨u2, c2, q2, _, g2, r2⟩ := hS1.get (K := K) hy
      have gx := hg x (List.mem_of_getElem? hx)
      have gy := hg y (List.mem_of_getElem? hy)
      refine ⟨rfl, _, rfl, _, rfl, _, _, _, V.ref c1, rfl, rfl, q1, at_of (j := i) (by omega) g1, _, rfl, _, rfl, _, _, rfl, rfl, _, _, _, V.ref c2, rfl, rfl, q2, at_of (j := i + 1) (by omega) g2, _, _, _, _, _, _, rfl, r1, r2, ⟨gx.rb, gy.rb⟩, fun H2 s2 => ?_⟩
      refine ⟨_, s2 _ _ hP, ?_, ?_, ?_⟩
      · rw [List.length_map, List.length_take]; exact Nat.lt_of_le_of_lt (Nat.le_trans (Nat.min_le_right _ _) (by rw [rb_len]; exact Nat.le_trans (Nat.sub_le _ _) hl)) (by decide)
      · intro b o e
        rw [upd_ne (ne_of_none e hD)]; exact s2 _ _ (sP b o e)
      · rw [upd_same, take_snoc2 (rb_at i hx hy), List.map_append]; rfl
    · rintro H' ⟨sP, hP⟩
      rw [nn, Int.toNat_natCast, ← rb_len, List.take_length] at hP
      refine ⟨D, rbOf ps, rfl, SqL.of hP, ?_⟩
      rw [← rise_all]
      exact k _ sP
noncomputable def sp_looked_up (C : Addr) : Sp := fun vs H Q _ => ∃ (x_p a b : Addr) (x : Int × Int) (xs ys : List (Int × Int)), vs = [.ref x_p, .ref a, .ref b] ∧ RatAt C H x_p x.1 x.2 ∧ RatsAt C H a xs ∧ RatsAt C H b ys ∧ TabOk x xs ys ∧ ∀ (H' : Hp) (p : Addr) (u : Int × Int), Same H H' → RatAt C H' p u.1 u.2 → RB u.1 u.2 → Val u (tabQ x xs ys) → Q (.ref p) H'
theorem bd_looked_up (T : Txt K mg) : Binds K T.fd_looked_up ["x", "xs", "ys"] [] := T.F_looked_up.binds (ps := ["x", "xs", "ys"]) fun _ _ _ _ _ _ => on3 fun _ _ _ => rfl
theorem ok_looked_up (T : Txt K mg) : FnOk P w K mg base CX0 5 T.f_looked_up T.fd_looked_up ["x", "xs", "ys"] (sp_looked_up T.a_Ratio) := by
  refine T.F_looked_up.ok sc_looked_up (fun vs H Q E h => ?_) (fun cdv A outer s H vs Q E hr h => ?_)
  · obtain ⟨xp, a, b, x, xs, ys, rfl, _⟩ := h
    rfl
  · obtain ⟨xp, a, b, x, xs, ys, rfl, hx, hA, hB, ok, k⟩ := h
    have one := ok.one
    have len := ok.len
    obtain ⟨x0, ex0⟩ := getp (l := xs) (i := 0) (by omega)
    obtain ⟨y0, ey0⟩ := getp (l := ys) (i := 0) (by omega)
    obtain ⟨n, hn⟩ : ∃ n, n + 1 = xs.length := ⟨xs.length - 1, by omega⟩
    obtain ⟨xn, exn⟩ := getp (l := xs) (i := n) (by omega)
    obtain ⟨yn, eyn⟩ := getp (l := ys) (i := n) (by omega)
    have gv : ∀ {i : Nat} {p : Int × Int}, xs[i]? = some p → GV p := fun h => ok.gxs _ (List.mem_of_getElem? h)
    have gw : ∀ {i : Nat} {p : Int × Int}, ys[i]? = some p → GV p := fun h => ok.gys _ (List.mem_of_getElem? h)
    refine ⟨_, (pss_cons (ps_if (pt_not (pt_val (pe_call (ok_is_less T) (hr.mono (by decide)) rfl T.m_is_less T.F_is_less.kp (bd_is_less T) .nil pass0 (pa_cons (pe_ix ix_list (pv 1) pe_int (fun _ _ => rfl)) (pa_cons (pv 0) pa_nil))))) (pss_one (ps_ret (pe_ix ix_list (pv 2) pe_int (fun _ _ => rfl)))) pss_nil)
      (pss_cons (ps_if (pt_not (pt_val (pe_call (ok_is_less T) (hr.mono (by decide)) rfl T.m_is_less T.F_is_less.kp (bd_is_less T) .nil pass0 (pa_cons (pv 0) (pa_cons (pe_ix ix_list (pv 1) (pe_un un_neg pe_int) (fun _ _ => rfl)) pa_nil))))) (pss_one (ps_ret (pe_ix ix_list (pv 2) (pe_un un_neg pe_int) (fun _ _ => rfl)))) pss_nil)
      (pss_cons (ps_set (i := 3) sc_looked_up.nd rfl (Or.inl rfl) pe_int)
      (pss_cons (ps_while PassesOwn.never (pt_not (pt_val (pe_call (ok_is_less T) (hr.mono (by decide)) rfl T.m_is_less T.F_is_less.kp (bd_is_less T) .nil pass0 (pa_cons (pv 0) (pa_cons (pe_ix ix_list (pv 1) (pv 3) (fun _ _ => rfl)) pa_nil))))) (pss_one (ps_aug (i := 3) sc_looked_up.nd rfl (Or.inl rfl) pe_int (pip_of iop_add))))
      (pss_cons (ps_set (i := 4) sc_looked_up.nd rfl (Or.inl rfl) (pe_op op_sub (pv 3) pe_int))
      (pss_cons (ps_set (i := 5) sc_looked_up.nd rfl (Or.inl rfl) (pe_call (ok_over T) (hr.mono (by decide)) rfl T.m_over T.F_over.kp (bd_over T) .nil pass0 (pa_cons (pe_call (ok_minus T) (hr.mono (by decide)) rfl T.m_minus T.F_minus.kp (bd_minus T) .nil pass0 (pa_cons (pv 0) (pa_cons (pe_ix ix_list (pv 1) (pv 4) (fun _ _ => rfl)) pa_nil))) (pa_cons (pe_call (ok_minus T) (hr.mono (by decide)) rfl T.m_minus T.F_minus.kp (bd_minus T) .nil pass0 (pa_cons (pe_ix ix_list (pv 1) (pv 3) (fun _ _ => rfl)) (pa_cons (pe_ix ix_list (pv 1) (pv 4) (fun _ _ => rfl)) pa_nil))) pa_nil))))
      (pss_one (ps_ret (pe_call (ok_plus T) (hr.mono (by decide)) rfl T.m_plus T.F_plus.kp (bd_plus T) .nil pass0 (pa_cons (pe_ix ix_list (pv 2) (pv 4) (fun _ _ => rfl)) (pa_cons (pe_call (ok_times T) (hr.mono (by decide)) rfl T.m_times T.F_times.kp (bd_times T) .nil pass0 (pa_cons (pv 5) (pa_cons (pe_call (ok_minus T) (hr.mono (by decide)) rfl T.m_minus T.F_minus.kp (bd_minus T) .nil pass0 (pa_cons (pe_ix ix_list (pv 2) (pv 3) (fun _ _ => rfl)) (pa_cons (pe_ix ix_list (pv 2) (pv 4) (fun _ _ => rfl)) pa_nil))) pa_nil))) pa_nil))))))))))), ?_⟩
    obtain ⟨u0, c0, q0, _, g0, r0⟩ := hA.get (K := K) ex0
    refine ⟨_, rfl, _, _, _, V.ref c0, rfl, rfl, q0, at_of (j := 0) rfl g0, _, rfl, _, _, _, _, _, _, rfl, r0, hx, ⟨(gv ex0).rb, ok.gx.rb⟩, fun H1 s1 => ?_⟩
    refine ⟨_, rfl, ?_⟩
    refine iteB (fun d1 => ?_) (fun d1 => ?_)
    · replace d1 := ne_true_of_eq_false (not_t d1)
      obtain ⟨f1, f2⟩ := ok.first ex0 ey0 d1
      obtain ⟨u1, c1, q1, _, g1, r1⟩ := (hB.keep s1).get (K := K) ey0
      exact ⟨_, rfl, _, _, _, V.ref c1, rfl, rfl, q1, at_of (j := 0) rfl g1, k _ _ y0 s1 r1 f1 f2⟩
    · replace d1 := not_f d1
      obtain ⟨u1, c1, q1, l1, g1, r1⟩ := (hA.keep s1).get (K := K) exn
      refine ⟨_, rfl, _, rfl, _, rfl, _, _, _, V.ref c1, rfl, rfl, q1, at_neg1 (by omega) g1, _, _, _, _, _, _, rfl, RatAt.keep s1 hx, r1, ⟨ok.gx.rb, (gv exn).rb⟩, fun H2 s2 => ?_⟩
      refine ⟨_, rfl, ?_⟩
      have s12 := Same.trans s1 s2
      refine iteB (fun d2 => ?_) (fun d2 => ?_)
      · replace d2 := ne_true_of_eq_false (not_t d2)
        obtain ⟨f1, f2⟩ := ok.last hn exn eyn d2
        obtain ⟨u2, c2, q2, l2, g2, r2⟩ := (hB.keep s12).get (K := K) eyn
        exact ⟨_, rfl, _, rfl, _, _, _, V.ref c2, rfl, rfl, q2, at_neg1 (by omega) g2, k _ _ yn s12 r2 f1 f2⟩
      · replace d2 := not_f d2
        refine ⟨fun m σ' H' => ∃ (j : Nat) (z : Int × Int), σ' = [some (.ref xp), some (.ref a), some (.ref b), some (.int ((j + 1 : Nat) : Int)), none, none] ∧ Same H H' ∧ j + 1 < xs.length ∧ xs[j]? = some z ∧ qv z ≤ qv x ∧ m = xs.length - j, ⟨_, 0, x0, rfl, s12, ?_, ex0, Rat.le_of_lt ((less_q (gv ex0) ok.gx).mp d1), rfl⟩, ?_⟩
        · refine Nat.lt_of_le_of_ne one fun e => ?_
          have n0 : n = 0 := by omega
          subst n0
          have e2 : x0 = xn := Option.some.inj (ex0.symm.trans exn)
          subst e2
          have t1 := (less_q (gv ex0) ok.gx).mp d1
          have t2 := (less_q ok.gx (gv ex0)).mp d2
          exact Rat.not_le.mpr t1 (Rat.le_of_lt t2)
        · rintro m σ' H' ⟨j, z, rfl, sP, hj, ez, lz, rfl⟩
          obtain ⟨y, ey⟩ := getp (l := xs) (i := j + 1) hj
          obtain ⟨u3, c3, q3, _, g3, r3⟩ := (hA.keep sP).get (K := K) ey
          refine ⟨_, rfl, _, rfl, _, rfl, _, _, _, V.ref c3, rfl, rfl, q3, at_of (j := j + 1) rfl g3, _, _, _, _, _, _, rfl, RatAt.keep sP hx, r3, ⟨ok.gx.rb, (gv ey).rb⟩, fun H3 s3 => ?_⟩
          refine ⟨_, rfl, ?_⟩
          have s13 := Same.trans sP s3
          refine iteB (fun d3 => ?_) (fun d3 => ?_)
          · replace d3 := ne_true_of_eq_false (not_t d3)
            have ly : qv y ≤ qv x := Rat.not_lt.mp fun t => d3 ((less_q ok.gx (gv ey)).mpr t)
            refine ⟨fun σ'' H'' => σ'' = [some (.ref xp), some (.ref a), some (.ref b), some (.int ((j + 1 + 1 : Nat) : Int)), none, none] ∧ H'' = H3, ?_, ?_⟩
            · rintro σ'' H'' ⟨rfl, rfl⟩
              refine ⟨xs.length - (j + 1), by omega, j + 1, y, rfl, s13, ?_, ey, ly, rfl⟩
              refine Nat.lt_of_le_of_ne hj fun e => ?_
              have n0 : n = j + 1 := by omega
              subst n0
              have e2 : y = xn := Option.some.inj (ey.symm.trans exn)
              subst e2
              exact d3 d2
            · exact ⟨_, rfl, _, _, rfl, rfl, rfl, rfl⟩
          · replace d3 := not_f d3
            obtain ⟨ya, eya⟩ := getp (l := ys) (i := j) (by omega)
            obtain ⟨yb, eyb⟩ := getp (l := ys) (i := j + 1) (by omega)
            obtain ⟨el, lt⟩ := ok.line ez ey eya eyb lz d3
            obtain ⟨b1, b2, b3, b4, b5, b6, bv⟩ := line_val ok.gx (gv ez) (gv ey) (gw eya) (gw eyb) lt _ _ _ _ _ rfl rfl rfl rfl rfl
            rw [← el] at bv
            have jj : ((j + 1 : Nat) : Int) - 1 = ((j : Nat) : Int) := by omega
            refine ⟨_, rfl, _, _, rfl, rfl, ?_⟩
            obtain ⟨ua, ca, qa, _, ga, ra⟩ := (hA.keep s13).get (K := K) ez
            refine ⟨_, rfl, _, rfl, _, rfl, _, _, _, V.ref ca, rfl, rfl, qa, at_of (j := j) jj ga, _, _, _, _, _, _, rfl, RatAt.keep s13 hx, ra, ⟨ok.gx.rb, (gv ez).rb⟩, fun H4 p4 s4 h4 => ?_⟩
            have s14 := Same.trans s13 s4
            obtain ⟨ub, cb, qb, _, gb, rb⟩ := (hA.keep s14).get (K := K) ey
            obtain ⟨uc, cc, qc, _, gc, rc⟩ := (hA.keep s14).get (K := K) ez
            refine ⟨_, rfl, _, rfl, _, _, _, V.ref cb, rfl, rfl, qb, at_of (j := j + 1) rfl gb, _, rfl, _, rfl, _, _, _, V.ref cc, rfl, rfl, qc, at_of (j := j) jj gc, _, _, _, _, _, _, rfl, rb, rc, ⟨(gv ey).rb, (gv ez).rb⟩, fun H5 p5 s5 h5 => ?_⟩
            refine ⟨_, _, _, _, _, _, rfl, RatAt.keep s5 h4, h5, ⟨b1, b2⟩, fun H6 p6 s6 h6 => ?_⟩
            have s16 := Same.trans (Same.trans s14 s5) s6
            obtain ⟨ud, cd, qd, _, gd, rd⟩ := (hB.keep s16).get (K := K) eya
            refine ⟨_, rfl, _, rfl, _, _, _, V.ref cd, rfl, rfl, qd, at_of (j := j) jj gd, _, rfl, ?_⟩
            obtain ⟨ue, ce, qe, _, ge, re⟩ := (hB.keep s16).get (K := K) eyb
            refine ⟨_, rfl, _, rfl, _, _, _, V.ref ce, rfl, rfl, qe, at_of (j := j + 1) rfl ge, _, rfl, _, rfl, _, _, _, V.ref cd, rfl, rfl, qd, at_of (j := j) jj gd, _, _, _, _, _, _, rfl, re, rd, ⟨(gw eyb).rb, (gw eya).rb⟩, fun H7 p7 s7 h7 => ?_⟩
            refine ⟨_, _, _, _, _, _, rfl, RatAt.keep s7 h6, h7, ⟨b3, b4⟩, fun H8 p8 s8 h8 => ?_⟩
            refine ⟨_, _, _, _, _, _, rfl, RatAt.keep (Same.trans s7 s8) rd, h8, ⟨(gw eya).rb, b5⟩, fun H9 p9 s9 h9 => ?_⟩
            exact k _ _ _ (Same.trans (Same.trans (Same.trans s16 s7) s8) s9) h9 b6 bv
noncomputable def sp_table (K : PySem.W.Frag) : Sp := fun vs H Q _ => ∃ (c r xc yc f how : Int) (xs_p : Addr) (xs : List Int) (ys_p : Addr) (ys : List Int), vs = [.int c, .int r, .int xc, .int yc, .int f, .int how, .ref xs_p, .ref ys_p] ∧ SqL K H xs_p (xs.map V.int) ∧ SqL K H ys_p (ys.map V.int) ∧ True ∧ ∀ (H' : Hp) (p : Addr), H' p = some (.lst ((PyWqadbl.table c r xc yc f how xs ys).map V.int)) → Q (.ref p) H'
theorem bd_table (T : Txt K mg) : Binds K T.fd_table ["c", "r", "xc", "yc", "f", "how", "xs", "ys"] [] := T.F_table.binds (ps := ["c", "r", "xc", "yc", "f", "how", "xs", "ys"]) fun _ _ _ _ _ _ => on8 fun _ _ _ _ _ _ _ _ => rfl
theorem ok_table (T : Txt K mg) : FnOk P w K mg base CX0 9 T.f_table T.fd_table ["c", "r", "xc", "yc", "f", "how", "xs", "ys"] (sp_table K) := by
  refine T.F_table.ok sc_table (fun vs H Q E h => ?_) (fun cdv A outer s H vs Q E hr h => ?_)
  · obtain ⟨c, r, xc, yc, f, how, a, xs, b, ys, rfl, _⟩ := h
    rfl
  · obtain ⟨c, r, xc, yc, f, how, a, xs, b, ys, rfl, hA, hB, _, k⟩ := h
    refine ⟨_, (pss_cons (ps_if (pt_not (PW.pt (pw_and (pt_val (pe_call (ok_is_raw T) (hr.mono (by decide)) rfl T.m_is_raw T.F_is_raw.kp (bd_is_raw T) .nil pass0 (pa_cons (pv 0) (pa_cons (pv 1) pa_nil)))) (pw_and (pt_val (pe_call (ok_may_put T) (hr.mono (by decide)) rfl T.m_may_put T.F_may_put.kp (bd_may_put T) .nil pass0 (pa_cons (pv 4) (pa_cons (pv 5) pa_nil)))) (pw_and1 (pt_val (pe_call (ok_may_look_up T) (hr.mono (by decide)) rfl T.m_may_look_up T.F_may_look_up.kp (bd_may_look_up T) .nil pass0 (pa_cons (pv 2) (pa_cons (pv 3) (pa_cons (pv 6) (pa_cons (pv 7) pa_nil))))))))))) (pss_one (ps_ret (pe_lst (pa_cons (pe_globE rfl T.c_WRONG_ARGUMENT) pa_nil)))) pss_nil)
      (pss_cons (ps_set (i := 8) sc_table.nd rfl (Or.inl rfl) (pe_call (ok_worths_of T) (hr.mono (by decide)) rfl T.m_worths_of T.F_worths_of.kp (bd_worths_of T) .nil pass0 (pa_cons (pv 2) (pa_cons (pv 6) pa_nil))))
      (pss_cons (ps_if (pt_not (pt_val (pe_call (ok_rise T) (hr.mono (by decide)) rfl T.m_rise T.F_rise.kp (bd_rise T) .nil pass0 (pa_cons (pv 8) pa_nil)))) (pss_one (ps_ret (pe_lst (pa_cons (pe_globE rfl T.c_NOT_FITTING) pa_nil)))) pss_nil)
      (pss_one (ps_ret (pe_op op_cat (pe_lst (pa_cons pe_int pa_nil)) (pe_call (ok_put_ratio T) (hr.mono (by decide)) rfl T.m_put_ratio T.F_put_ratio.kp (bd_put_ratio T) .nil pass0 (pa_cons (pe_call (ok_looked_up T) (hr.mono (by decide)) rfl T.m_looked_up T.F_looked_up.kp (bd_looked_up T) .nil pass0 (pa_cons (pe_call (ok_worth_of T) (hr.mono (by decide)) rfl T.m_worth_of T.F_worth_of.kp (bd_worth_of T) .nil pass0 (pa_cons (pv 0) (pa_cons (pv 1) pa_nil))) (pa_cons (pv 8) (pa_cons (pe_call (ok_worths_of T) (hr.mono (by decide)) rfl T.m_worths_of T.F_worths_of.kp (bd_worths_of T) .nil pass0 (pa_cons (pv 3) (pa_cons (pv 7) pa_nil))) pa_nil)))) (pa_cons (pv 4) (pa_cons (pv 5) pa_nil)))))))))), ?_⟩
    have no : ¬ (m_is_raw c r = true ∧ m_may_put f how = true ∧ m_may_look_up xc yc xs ys = true) → ∀ (H' : Hp) (p : Addr), H' p = some (.lst [.int (-1)]) → Q (.ref p) H' := fun z H' p hp => k _ _ (by rw [hp, table_eq, if_neg z]; rfl)
    refine ⟨_, rfl, _, rfl, _, _, rfl, trivial, fun H1 s1 => ?_⟩
    refine ⟨_, rfl, ?_⟩
    refine iteB (fun d1 => ?_) (fun d1 => ?_)
    · refine ⟨_, rfl, _, rfl, _, _, rfl, trivial, fun H2 s2 => ?_⟩
      refine ⟨_, rfl, ?_⟩
      refine iteB (fun d2 => ?_) (fun d2 => ?_)
      · have s12 := Same.trans s1 s2
        refine ⟨_, rfl, _, rfl, _, rfl, _, rfl, _, _, _, xs, _, ys, rfl, s12.seq hA, s12.seq hB, trivial, fun H3 s3 => ?_⟩
        have s13 := Same.trans s12 s3
        refine ⟨_, rfl, ?_⟩
        refine iteB (fun d3 => ?_) (fun d3 => ?_)
        · replace d3 := ne_true_of_eq_false (not_t d3)
          refine ⟨(by show 1 ≤ sizeLine; decide), fun p hp => no (fun z => d3 z.2.2) _ _ upd_same⟩
        · replace d3 := not_f d3
          obtain ⟨l1, l2, l3, l4, l5⟩ := look_iff.mp d3
          have R1 := good_raws l4
          have R2 := good_raws l5
          refine ⟨_, rfl, _, rfl, _, _, xs, rfl, s13.seq hA, ⟨l3, l4⟩, fun H4 p4 s4 h4 => ?_⟩
          have s14 := Same.trans s13 s4
          have gX : ∀ p ∈ xs.map (m_worth_of xc), GV p := fun p hp => by
            obtain ⟨z, hz, rfl⟩ := List.mem_map.mp hp
            exact worth_sz (R1 z hz)
          have gY : ∀ p ∈ ys.map (m_worth_of yc), GV p := fun p hp => by
            obtain ⟨z, hz, rfl⟩ := List.mem_map.mp hp
            exact worth_sz (R2 z hz)
          refine ⟨_, rfl, _, _, rfl, h4, ⟨by rw [List.length_map]; exact l2, by rw [List.length_map]; exact l3, gX⟩, fun H5 s5 => ?_⟩
          refine ⟨_, rfl, ?_⟩
          refine iteB (fun d5 => ?_) (fun d5 => ?_)
          · replace d5 := ne_true_of_eq_false (not_t d5)
            refine ⟨(by show 1 ≤ sizeLine; decide), fun p hp => k _ _ ?_⟩
            rw [upd_same, table_eq, if_pos ⟨d1, d2, d3⟩, if_neg d5]
            rfl
          · replace d5 := not_f d5
            have s15 := Same.trans s14 s5
            refine ⟨(by show 1 ≤ sizeLine; decide), fun p0 hp0 => ?_⟩
            have s16 := Same.trans s15 (Same.new hp0 (o := .lst [.int 0]))
            refine ⟨_, rfl, _, rfl, _, _, rfl, raw_fmt d1, fun H6 p6 s6 h6 => ?_⟩
            have s17 := Same.trans s16 s6
            refine ⟨_, rfl, _, rfl, _, rfl, _, _, ys, rfl, s17.seq hB, ⟨by omega, l5⟩, fun H7 p7 s7 h7 => ?_⟩
            have TO : TabOk (m_worth_of c r) (xs.map (m_worth_of xc)) (ys.map (m_worth_of yc)) := ⟨worth_sz d1, gX, gY, by rw [List.length_map, List.length_map]; exact l1, by rw [List.length_map]; exact l2, by rw [List.length_map]; exact l3, d5⟩
            refine ⟨_, _, _, m_worth_of c r, _, _, rfl, RatAt.keep s7 h6, RatsAt.keep (Same.trans (Same.trans (Same.trans s5 (Same.new hp0)) s6) s7) h4, h7, TO, fun H8 p8 u s8 h8 rb v => ?_⟩
            refine ⟨_, rfl, _, rfl, _, _, _, _, _, rfl, h8, ⟨rb, may_fmt d2⟩, fun H9 p9 s9 h9 => ?_⟩
            refine ⟨_, _, _, _, rfl, rfl, s9 _ _ (s8 _ _ (s7 _ _ (s6 _ _ upd_same))), h9, (by show 1 + 2 ≤ sizeLine; decide), fun p10 h10 => ?_⟩
            obtain ⟨G, i, g0, g1, _, _, e⟩ := result_some d2
            refine k _ _ ?_
            rw [upd_same, table_eq, if_pos ⟨d1, d2, d3⟩, if_pos d5, e, put_val i v g0 g1]
            unfold tabQ
            rw [List.map_map, List.map_map]
            rfl
      · have d2' : ¬ m_may_put f how = true := ne_true_of_eq_false d2
        refine iteT ?_
        refine ⟨(by show 1 ≤ sizeLine; decide), fun p hp => no (fun z => d2' z.2.1) _ _ upd_same⟩
    · have d1' : ¬ m_is_raw c r = true := ne_true_of_eq_false d1
      refine iteT ?_
      refine ⟨(by show 1 ≤ sizeLine; decide), fun p hp => no (fun z => d1' z.1) _ _ upd_same⟩
theorem bt_table (T : Txt K mg) : ∀ (s : Shared) (us : List Value), us.length = (["c", "r", "xc", "yc", "f", "how", "xs", "ys"] : List Str).length → BindsTo s T.fd_table ⟨us, []⟩ ((["c", "r", "xc", "yc", "f", "how", "xs", "ys"] : List Str).zip us) := by
  obtain ⟨oc, od, kV, doc, pm, an, cdv, ct, osl, e, lk, hcd⟩ := T.F_table.ex
  intro s us hu
  rw [e]
  exact match us, hu with | [_, _, _, _, _, _, _, _], _ => .of_eq rfl
end
noncomputable def txt_mk {K : PySem.W.Frag} {h : Heap} {mg : Str → Option Value} (X : K.In h) (G : h.Ns mainGlobals mg)
    {f_kind_of : Addr} {od_kind_of an_kind_of : Option Addr} {sl_kind_of : Array (Option Value)} {oc_kind_of kV_kind_of dc_kind_of pm_kind_of cd_kind_of ct_kind_of : Value}
    {f_width_of : Addr} {od_width_of an_width_of : Option Addr} {sl_width_of : Array (Option Value)} {oc_width_of kV_width_of dc_width_of pm_width_of cd_width_of ct_width_of : Value}
    {f_point_of : Addr} {od_point_of an_point_of : Option Addr} {sl_point_of : Array (Option Value)} {oc_point_of kV_point_of dc_point_of pm_point_of cd_point_of ct_point_of : Value}
    {f_is_format : Addr} {od_is_format an_is_format : Option Addr} {sl_is_format : Array (Option Value)} {oc_is_format kV_is_format dc_is_format pm_is_format cd_is_format ct_is_format : Value}
    {f_sign_bit : Addr} {od_sign_bit an_sign_bit : Option Addr} {sl_sign_bit : Array (Option Value)} {oc_sign_bit kV_sign_bit dc_sign_bit pm_sign_bit cd_sign_bit ct_sign_bit : Value}
    {f_infinity_raw : Addr} {od_infinity_raw an_infinity_raw : Option Addr} {sl_infinity_raw : Array (Option Value)} {oc_infinity_raw kV_infinity_raw dc_infinity_raw pm_infinity_raw cd_infinity_raw ct_infinity_raw : Value}
    {f_greatest_raw : Addr} {od_greatest_raw an_greatest_raw : Option Addr} {sl_greatest_raw : Array (Option Value)} {oc_greatest_raw kV_greatest_raw dc_greatest_raw pm_greatest_raw cd_greatest_raw ct_greatest_raw : Value}
    {f_least_raw : Addr} {od_least_raw an_least_raw : Option Addr} {sl_least_raw : Array (Option Value)} {oc_least_raw kV_least_raw dc_least_raw pm_least_raw cd_least_raw ct_least_raw : Value}
    {f_common_divisor : Addr} {od_common_divisor an_common_divisor : Option Addr} {sl_common_divisor : Array (Option Value)} {oc_common_divisor kV_common_divisor dc_common_divisor pm_common_divisor cd_common_divisor ct_common_divisor : Value}
    {f_plus : Addr} {od_plus an_plus : Option Addr} {sl_plus : Array (Option Value)} {oc_plus kV_plus dc_plus pm_plus cd_plus ct_plus : Value}
    {f_minus : Addr} {od_minus an_minus : Option Addr} {sl_minus : Array (Option Value)} {oc_minus kV_minus dc_minus pm_minus cd_minus ct_minus : Value}
    {f_times : Addr} {od_times an_times : Option Addr} {sl_times : Array (Option Value)} {oc_times kV_times dc_times pm_times cd_times ct_times : Value}
    {f_over : Addr} {od_over an_over : Option Addr} {sl_over : Array (Option Value)} {oc_over kV_over dc_over pm_over cd_over ct_over : Value}
    {f_is_less : Addr} {od_is_less an_is_less : Option Addr} {sl_is_less : Array (Option Value)} {oc_is_less kV_is_less dc_is_less pm_is_less cd_is_less ct_is_less : Value}
    {f_fits_width : Addr} {od_fits_width an_fits_width : Option Addr} {sl_fits_width : Array (Option Value)} {oc_fits_width kV_fits_width dc_fits_width pm_fits_width cd_fits_width ct_fits_width : Value}
    {f_is_raw : Addr} {od_is_raw an_is_raw : Option Addr} {sl_is_raw : Array (Option Value)} {oc_is_raw kV_is_raw dc_is_raw pm_is_raw cd_is_raw ct_is_raw : Value}
    {f_is_good : Addr} {od_is_good an_is_good : Option Addr} {sl_is_good : Array (Option Value)} {oc_is_good kV_is_good dc_is_good pm_is_good cd_is_good ct_is_good : Value}
    {f_steps_of : Addr} {od_steps_of an_steps_of : Option Addr} {sl_steps_of : Array (Option Value)} {oc_steps_of kV_steps_of dc_steps_of pm_steps_of cd_steps_of ct_steps_of : Value}
    {f_float_worth : Addr} {od_float_worth an_float_worth : Option Addr} {sl_float_worth : Array (Option Value)} {oc_float_worth kV_float_worth dc_float_worth pm_float_worth cd_float_worth ct_float_worth : Value}
    {f_worth_of : Addr} {od_worth_of an_worth_of : Option Addr} {sl_worth_of : Array (Option Value)} {oc_worth_of kV_worth_of dc_worth_of pm_worth_of cd_worth_of ct_worth_of : Value}
    {f_is_mode : Addr} {od_is_mode an_is_mode : Option Addr} {sl_is_mode : Array (Option Value)} {oc_is_mode kV_is_mode dc_is_mode pm_is_mode cd_is_mode ct_is_mode : Value}
    {f_in_steps : Addr} {od_in_steps an_in_steps : Option Addr} {sl_in_steps : Array (Option Value)} {oc_in_steps kV_in_steps dc_in_steps pm_in_steps cd_in_steps ct_in_steps : Value}
    {f_leading_place : Addr} {od_leading_place an_leading_place : Option Addr} {sl_leading_place : Array (Option Value)} {oc_leading_place kV_leading_place dc_leading_place pm_leading_place cd_leading_place ct_leading_place : Value}
    {f_quarters : Addr} {od_quarters an_quarters : Option Addr} {sl_quarters : Array (Option Value)} {oc_quarters kV_quarters dc_quarters pm_quarters cd_quarters ct_quarters : Value}
    {f_is_whole : Addr} {od_is_whole an_is_whole : Option Addr} {sl_is_whole : Array (Option Value)} {oc_is_whole kV_is_whole dc_is_whole pm_is_whole cd_is_whole ct_is_whole : Value}
    {f_goes_far : Addr} {od_goes_far an_goes_far : Option Addr} {sl_goes_far : Array (Option Value)} {oc_goes_far kV_goes_far dc_goes_far pm_goes_far cd_goes_far ct_goes_far : Value}
    {f_rounded : Addr} {od_rounded an_rounded : Option Addr} {sl_rounded : Array (Option Value)} {oc_rounded kV_rounded dc_rounded pm_rounded cd_rounded ct_rounded : Value}
    {f_mode_of : Addr} {od_mode_of an_mode_of : Option Addr} {sl_mode_of : Array (Option Value)} {oc_mode_of kV_mode_of dc_mode_of pm_mode_of cd_mode_of ct_mode_of : Value}
    {f_holds : Addr} {od_holds an_holds : Option Addr} {sl_holds : Array (Option Value)} {oc_holds kV_holds dc_holds pm_holds cd_holds ct_holds : Value}
    {f_may_put : Addr} {od_may_put an_may_put : Option Addr} {sl_may_put : Array (Option Value)} {oc_may_put kV_may_put dc_may_put pm_may_put cd_may_put ct_may_put : Value}
    {f_end_raw : Addr} {od_end_raw an_end_raw : Option Addr} {sl_end_raw : Array (Option Value)} {oc_end_raw kV_end_raw dc_end_raw pm_end_raw cd_end_raw ct_end_raw : Value}
    {f_put_ratio : Addr} {od_put_ratio an_put_ratio : Option Addr} {sl_put_ratio : Array (Option Value)} {oc_put_ratio kV_put_ratio dc_put_ratio pm_put_ratio cd_put_ratio ct_put_ratio : Value}
    {f_put_fixed : Addr} {od_put_fixed an_put_fixed : Option Addr} {sl_put_fixed : Array (Option Value)} {oc_put_fixed kV_put_fixed dc_put_fixed pm_put_fixed cd_put_fixed ct_put_fixed : Value}
    {f_put_float : Addr} {od_put_float an_put_float : Option Addr} {sl_put_float : Array (Option Value)} {oc_put_float kV_put_float dc_put_float pm_put_float cd_put_float ct_put_float : Value}
    {f_are_good : Addr} {od_are_good an_are_good : Option Addr} {sl_are_good : Array (Option Value)} {oc_are_good kV_are_good dc_are_good pm_are_good cd_are_good ct_are_good : Value}
    {f_may_look_up : Addr} {od_may_look_up an_may_look_up : Option Addr} {sl_may_look_up : Array (Option Value)} {oc_may_look_up kV_may_look_up dc_may_look_up pm_may_look_up cd_may_look_up ct_may_look_up : Value}
    {f_worths_of : Addr} {od_worths_of an_worths_of : Option Addr} {sl_worths_of : Array (Option Value)} {oc_worths_of kV_worths_of dc_worths_of pm_worths_of cd_worths_of ct_worths_of : Value}
    {f_rise : Addr} {od_rise an_rise : Option Addr} {sl_rise : Array (Option Value)} {oc_rise kV_rise dc_rise pm_rise cd_rise ct_rise : Value}
    {f_looked_up : Addr} {od_looked_up an_looked_up : Option Addr} {sl_looked_up : Array (Option Value)} {oc_looked_up kV_looked_up dc_looked_up pm_looked_up cd_looked_up ct_looked_up : Value}
    {f_table : Addr} {od_table an_table : Option Addr} {sl_table : Array (Option Value)} {oc_table kV_table dc_table pm_table cd_table ct_table : Value}
    {a_Ratio f_Ratio_init : Addr} {od_Ratio_init an_Ratio_init : Option Addr} {sl_Ratio_init : Array (Option Value)} {oc_Ratio_init kV_Ratio_init dc_Ratio_init pm_Ratio_init cd_Ratio_init ct_Ratio_init : Value}
    {tk_TRUTH : Tok}
    {tk_SIGNED : Tok}
    {tk_UNSIGNED : Tok}
    {tk_FLOAT : Tok}
    {tk_T : Tok}
    {tk_F32 : Tok}
    {tk_F64 : Tok}
    {a_WIDTHS : Addr} {o_WIDTHS : Obj}
    {a_FRACTION_BITS : Addr} {o_FRACTION_BITS : Obj}
    {a_LOWEST_PLACES : Addr} {o_LOWEST_PLACES : Obj}
    {tk_INEXACT : Tok}
    {tk_HELD : Tok}
    {tk_NEAREST_EVEN : Tok}
    {tk_TOWARD_NOUGHT : Tok}
    {tk_UP : Tok}
    {tk_DOWN : Tok}
    {tk_NEAREST_FAR : Tok}
    {tk_MOST_POINTS : Tok}
    {tk_WRONG_ARGUMENT : Tok}
    {tk_NOT_FITTING : Tok}
    (a_kind_of : PySem.W.nsIn K mainGlobals "kind_of" = some (some (.ref f_kind_of))) (l_kind_of : K.lookup f_kind_of = some ⟨oc_kind_of, od_kind_of, .func (PySem.W.fnOf "kind_of" "kind_of" (defArgs s_kind_of) (defBody s_kind_of) (defScope s_kind_of) .none kV_kind_of dc_kind_of pm_kind_of an_kind_of cd_kind_of ct_kind_of), sl_kind_of⟩) (k1_kind_of : PySem.W.codeIn K cd_kind_of "kind_of" = true) (k2_kind_of : PySem.W.keepIn K (.ref f_kind_of) = true)
    (a_width_of : PySem.W.nsIn K mainGlobals "width_of" = some (some (.ref f_width_of))) (l_width_of : K.lookup f_width_of = some ⟨oc_width_of, od_width_of, .func (PySem.W.fnOf "width_of" "width_of" (defArgs s_width_of) (defBody s_width_of) (defScope s_width_of) .none kV_width_of dc_width_of pm_width_of an_width_of cd_width_of ct_width_of), sl_width_of⟩) (k1_width_of : PySem.W.codeIn K cd_width_of "width_of" = true) (k2_width_of : PySem.W.keepIn K (.ref f_width_of) = true)
    (a_point_of : PySem.W.nsIn K mainGlobals "point_of" = some (some (.ref f_point_of))) (l_point_of : K.lookup f_point_of = some ⟨oc_point_of, od_point_of, .func (PySem.W.fnOf "point_of" "point_of" (defArgs s_point_of) (defBody s_point_of) (defScope s_point_of) .none kV_point_of dc_point_of pm_point_of an_point_of cd_point_of ct_point_of), sl_point_of⟩) (k1_point_of : PySem.W.codeIn K cd_point_of "point_of" = true) (k2_point_of : PySem.W.keepIn K (.ref f_point_of) = true)
    (a_is_format : PySem.W.nsIn K mainGlobals "is_format" = some (some (.ref f_is_format))) (l_is_format : K.lookup f_is_format = some ⟨oc_is_format, od_is_format, .func (PySem.W.fnOf "is_format" "is_format" (defArgs s_is_format) (defBody s_is_format) (defScope s_is_format) .none kV_is_format dc_is_format pm_is_format an_is_format cd_is_format ct_is_format), sl_is_format⟩) (k1_is_format : PySem.W.codeIn K cd_is_format "is_format" = true) (k2_is_format : PySem.W.keepIn K (.ref f_is_format) = true)
    (a_sign_bit : PySem.W.nsIn K mainGlobals "sign_bit" = some (some (.ref f_sign_bit))) (l_sign_bit : K.lookup f_sign_bit = some ⟨oc_sign_bit, od_sign_bit, .func (PySem.W.fnOf "sign_bit" "sign_bit" (defArgs s_sign_bit) (defBody s_sign_bit) (defScope s_sign_bit) .none kV_sign_bit dc_sign_bit pm_sign_bit an_sign_bit cd_sign_bit ct_sign_bit), sl_sign_bit⟩) (k1_sign_bit : PySem.W.codeIn K cd_sign_bit "sign_bit" = true) (k2_sign_bit : PySem.W.keepIn K (.ref f_sign_bit) = true)
    (a_infinity_raw : PySem.W.nsIn K mainGlobals "infinity_raw" = some (some (.ref f_infinity_raw))) (l_infinity_raw : K.lookup f_infinity_raw = some ⟨oc_infinity_raw, od_infinity_raw, .func (PySem.W.fnOf "infinity_raw" "infinity_raw" (defArgs s_infinity_raw) (defBody s_infinity_raw) (defScope s_infinity_raw) .none kV_infinity_raw dc_infinity_raw pm_infinity_raw an_infinity_raw cd_infinity_raw ct_infinity_raw), sl_infinity_raw⟩) (k1_infinity_raw : PySem.W.codeIn K cd_infinity_raw "infinity_raw" = true) (k2_infinity_raw : PySem.W.keepIn K (.ref f_infinity_raw) = true)
    (a_greatest_raw : PySem.W.nsIn K mainGlobals "greatest_raw" = some (some (.ref f_greatest_raw))) (l_greatest_raw : K.lookup f_greatest_raw = some ⟨oc_greatest_raw, od_greatest_raw, .func (PySem.W.fnOf "greatest_raw" "greatest_raw" (defArgs s_greatest_raw) (defBody s_greatest_raw) (defScope s_greatest_raw) .none kV_greatest_raw dc_greatest_raw pm_greatest_raw an_greatest_raw cd_greatest_raw ct_greatest_raw), sl_greatest_raw⟩) (k1_greatest_raw : PySem.W.codeIn K cd_greatest_raw "greatest_raw" = true) (k2_greatest_raw : PySem.W.keepIn K (.ref f_greatest_raw) = true)
    (a_least_raw : PySem.W.nsIn K mainGlobals "least_raw" = some (some (.ref f_least_raw))) (l_least_raw : K.lookup f_least_raw = some ⟨oc_least_raw, od_least_raw, .func (PySem.W.fnOf "least_raw" "least_raw" (defArgs s_least_raw) (defBody s_least_raw) (defScope s_least_raw) .none kV_least_raw dc_least_raw pm_least_raw an_least_raw cd_least_raw ct_least_raw), sl_least_raw⟩) (k1_least_raw : PySem.W.codeIn K cd_least_raw "least_raw" = true) (k2_least_raw : PySem.W.keepIn K (.ref f_least_raw) = true)
    (a_common_divisor : PySem.W.nsIn K mainGlobals "common_divisor" = some (some (.ref f_common_divisor))) (l_common_divisor : K.lookup f_common_divisor = some ⟨oc_common_divisor, od_common_divisor, .func (PySem.W.fnOf "common_divisor" "common_divisor" (defArgs s_common_divisor) (defBody s_common_divisor) (defScope s_common_divisor) .none kV_common_divisor dc_common_divisor pm_common_divisor an_common_divisor cd_common_divisor ct_common_divisor), sl_common_divisor⟩) (k1_common_divisor : PySem.W.codeIn K cd_common_divisor "common_divisor" = true) (k2_common_divisor : PySem.W.keepIn K (.ref f_common_divisor) = true)
    (a_plus : PySem.W.nsIn K mainGlobals "plus" = some (some (.ref f_plus))) (l_plus : K.lookup f_plus = some ⟨oc_plus, od_plus, .func (PySem.W.fnOf "plus" "plus" (defArgs s_plus) (defBody s_plus) (defScope s_plus) .none kV_plus dc_plus pm_plus an_plus cd_plus ct_plus), sl_plus⟩) (k1_plus : PySem.W.codeIn K cd_plus "plus" = true) (k2_plus : PySem.W.keepIn K (.ref f_plus) = true)
    (a_minus : PySem.W.nsIn K mainGlobals "minus" = some (some (.ref f_minus))) (l_minus : K.lookup f_minus = some ⟨oc_minus, od_minus, .func (PySem.W.fnOf "minus" "minus" (defArgs s_minus) (defBody s_minus) (defScope s_minus) .none kV_minus dc_minus pm_minus an_minus cd_minus ct_minus), sl_minus⟩) (k1_minus : PySem.W.codeIn K cd_minus "minus" = true) (k2_minus : PySem.W.keepIn K (.ref f_minus) = true)
    (a_times : PySem.W.nsIn K mainGlobals "times" = some (some (.ref f_times))) (l_times : K.lookup f_times = some ⟨oc_times, od_times, .func (PySem.W.fnOf "times" "times" (defArgs s_times) (defBody s_times) (defScope s_times) .none kV_times dc_times pm_times an_times cd_times ct_times), sl_times⟩) (k1_times : PySem.W.codeIn K cd_times "times" = true) (k2_times : PySem.W.keepIn K (.ref f_times) = true)
    (a_over : PySem.W.nsIn K mainGlobals "over" = some (some (.ref f_over))) (l_over : K.lookup f_over = some ⟨oc_over, od_over, .func (PySem.W.fnOf "over" "over" (defArgs s_over) (defBody s_over) (defScope s_over) .none kV_over dc_over pm_over an_over cd_over ct_over), sl_over⟩) (k1_over : PySem.W.codeIn K cd_over "over" = true) (k2_over : PySem.W.keepIn K (.ref f_over) = true)
    (a_is_less : PySem.W.nsIn K mainGlobals "is_less" = some (some (.ref f_is_less))) (l_is_less : K.lookup f_is_less = some ⟨oc_is_less, od_is_less, .func (PySem.W.fnOf "is_less" "is_less" (defArgs s_is_less) (defBody s_is_less) (defScope s_is_less) .none kV_is_less dc_is_less pm_is_less an_is_less cd_is_less ct_is_less), sl_is_less⟩) (k1_is_less : PySem.W.codeIn K cd_is_less "is_less" = true) (k2_is_less : PySem.W.keepIn K (.ref f_is_less) = true)
    (a_fits_width : PySem.W.nsIn K mainGlobals "fits_width" = some (some (.ref f_fits_width))) (l_fits_width : K.lookup f_fits_width = some ⟨oc_fits_width, od_fits_width, .func (PySem.W.fnOf "fits_width" "fits_width" (defArgs s_fits_width) (defBody s_fits_width) (defScope s_fits_width) .none kV_fits_width dc_fits_width pm_fits_width an_fits_width cd_fits_width ct_fits_width), sl_fits_width⟩) (k1_fits_width : PySem.W.codeIn K cd_fits_width "fits_width" = true) (k2_fits_width : PySem.W.keepIn K (.ref f_fits_width) = true)
    (a_is_raw : PySem.W.nsIn K mainGlobals "is_raw" = some (some (.ref f_is_raw))) (l_is_raw : K.lookup f_is_raw = some ⟨oc_is_raw, od_is_raw, .func (PySem.W.fnOf "is_raw" "is_raw" (defArgs s_is_raw) (defBody s_is_raw) (defScope s_is_raw) .none kV_is_raw dc_is_raw pm_is_raw an_is_raw cd_is_raw ct_is_raw), sl_is_raw⟩) (k1_is_raw : PySem.W.codeIn K cd_is_raw "is_raw" = true) (k2_is_raw : PySem.W.keepIn K (.ref f_is_raw) = true)
    (a_is_good : PySem.W.nsIn K mainGlobals "is_good" = some (some (.ref f_is_good))) (l_is_good : K.lookup f_is_good = some ⟨oc_is_good, od_is_good, .func (PySem.W.fnOf "is_good" "is_good" (defArgs s_is_good) (defBody s_is_good) (defScope s_is_good) .none kV_is_good dc_is_good pm_is_good an_is_good cd_is_good ct_is_good), sl_is_good⟩) (k1_is_good : PySem.W.codeIn K cd_is_good "is_good" = true) (k2_is_good : PySem.W.keepIn K (.ref f_is_good) = true)
    (a_steps_of : PySem.W.nsIn K mainGlobals "steps_of" = some (some (.ref f_steps_of))) (l_steps_of : K.lookup f_steps_of = some ⟨oc_steps_of, od_steps_of, .func (PySem.W.fnOf "steps_of" "steps_of" (defArgs s_steps_of) (defBody s_steps_of) (defScope s_steps_of) .none kV_steps_of dc_steps_of pm_steps_of an_steps_of cd_steps_of ct_steps_of), sl_steps_of⟩) (k1_steps_of : PySem.W.codeIn K cd_steps_of "steps_of" = true) (k2_steps_of : PySem.W.keepIn K (.ref f_steps_of) = true)
    (a_float_worth : PySem.W.nsIn K mainGlobals "float_worth" = some (some (.ref f_float_worth))) (l_float_worth : K.lookup f_float_worth = some ⟨oc_float_worth, od_float_worth, .func (PySem.W.fnOf "float_worth" "float_worth" (defArgs s_float_worth) (defBody s_float_worth) (defScope s_float_worth) .none kV_float_worth dc_float_worth pm_float_worth an_float_worth cd_float_worth ct_float_worth), sl_float_worth⟩) (k1_float_worth : PySem.W.codeIn K cd_float_worth "float_worth" = true) (k2_float_worth : PySem.W.keepIn K (.ref f_float_worth) = true)
    (a_worth_of : PySem.W.nsIn K mainGlobals "worth_of" = some (some (.ref f_worth_of))) (l_worth_of : K.lookup f_worth_of = some ⟨oc_worth_of, od_worth_of, .func (PySem.W.fnOf "worth_of" "worth_of" (defArgs s_worth_of) (defBody s_worth_of) (defScope s_worth_of) .none kV_worth_of dc_worth_of pm_worth_of an_worth_of cd_worth_of ct_worth_of), sl_worth_of⟩) (k1_worth_of : PySem.W.codeIn K cd_worth_of "worth_of" = true) (k2_worth_of : PySem.W.keepIn K (.ref f_worth_of) = true)
    (a_is_mode : PySem.W.nsIn K mainGlobals "is_mode" = some (some (.ref f_is_mode))) (l_is_mode : K.lookup f_is_mode = some ⟨oc_is_mode, od_is_mode, .func (PySem.W.fnOf "is_mode" "is_mode" (defArgs s_is_mode) (defBody s_is_mode) (defScope s_is_mode) .none kV_is_mode dc_is_mode pm_is_mode an_is_mode cd_is_mode ct_is_mode), sl_is_mode⟩) (k1_is_mode : PySem.W.codeIn K cd_is_mode "is_mode" = true) (k2_is_mode : PySem.W.keepIn K (.ref f_is_mode) = true)
    (a_in_steps : PySem.W.nsIn K mainGlobals "in_steps" = some (some (.ref f_in_steps))) (l_in_steps : K.lookup f_in_steps = some ⟨oc_in_steps, od_in_steps, .func (PySem.W.fnOf "in_steps" "in_steps" (defArgs s_in_steps) (defBody s_in_steps) (defScope s_in_steps) .none kV_in_steps dc_in_steps pm_in_steps an_in_steps cd_in_steps ct_in_steps), sl_in_steps⟩) (k1_in_steps : PySem.W.codeIn K cd_in_steps "in_steps" = true) (k2_in_steps : PySem.W.keepIn K (.ref f_in_steps) = true)
    (a_leading_place : PySem.W.nsIn K mainGlobals "leading_place" = some (some (.ref f_leading_place))) (l_leading_place : K.lookup f_leading_place = some ⟨oc_leading_place, od_leading_place, .func (PySem.W.fnOf "leading_place" "leading_place" (defArgs s_leading_place) (defBody s_leading_place) (defScope s_leading_place) .none kV_leading_place dc_leading_place pm_leading_place an_leading_place cd_leading_place ct_leading_place), sl_leading_place⟩) (k1_leading_place : PySem.W.codeIn K cd_leading_place "leading_place" = true) (k2_leading_place : PySem.W.keepIn K (.ref f_leading_place) = true)
    (a_quarters : PySem.W.nsIn K mainGlobals "quarters" = some (some (.ref f_quarters))) (l_quarters : K.lookup f_quarters = some ⟨oc_quarters, od_quarters, .func (PySem.W.fnOf "quarters" "quarters" (defArgs s_quarters) (defBody s_quarters) (defScope s_quarters) .none kV_quarters dc_quarters pm_quarters an_quarters cd_quarters ct_quarters), sl_quarters⟩) (k1_quarters : PySem.W.codeIn K cd_quarters "quarters" = true) (k2_quarters : PySem.W.keepIn K (.ref f_quarters) = true)
    (a_is_whole : PySem.W.nsIn K mainGlobals "is_whole" = some (some (.ref f_is_whole))) (l_is_whole : K.lookup f_is_whole = some ⟨oc_is_whole, od_is_whole, .func (PySem.W.fnOf "is_whole" "is_whole" (defArgs s_is_whole) (defBody s_is_whole) (defScope s_is_whole) .none kV_is_whole dc_is_whole pm_is_whole an_is_whole cd_is_whole ct_is_whole), sl_is_whole⟩) (k1_is_whole : PySem.W.codeIn K cd_is_whole "is_whole" = true) (k2_is_whole : PySem.W.keepIn K (.ref f_is_whole) = true)
    (a_goes_far : PySem.W.nsIn K mainGlobals "goes_far" = some (some (.ref f_goes_far))) (l_goes_far : K.lookup f_goes_far = some ⟨oc_goes_far, od_goes_far, .func (PySem.W.fnOf "goes_far" "goes_far" (defArgs s_goes_far) (defBody s_goes_far) (defScope s_goes_far) .none kV_goes_far dc_goes_far pm_goes_far an_goes_far cd_goes_far ct_goes_far), sl_goes_far⟩) (k1_goes_far : PySem.W.codeIn K cd_goes_far "goes_far" = true) (k2_goes_far : PySem.W.keepIn K (.ref f_goes_far) = true)
    (a_rounded : PySem.W.nsIn K mainGlobals "rounded" = some (some (.ref f_rounded))) (l_rounded : K.lookup f_rounded = some ⟨oc_rounded, od_rounded, .func (PySem.W.fnOf "rounded" "rounded" (defArgs s_rounded) (defBody s_rounded) (defScope s_rounded) .none kV_rounded dc_rounded pm_rounded an_rounded cd_rounded ct_rounded), sl_rounded⟩) (k1_rounded : PySem.W.codeIn K cd_rounded "rounded" = true) (k2_rounded : PySem.W.keepIn K (.ref f_rounded) = true)
    (a_mode_of : PySem.W.nsIn K mainGlobals "mode_of" = some (some (.ref f_mode_of))) (l_mode_of : K.lookup f_mode_of = some ⟨oc_mode_of, od_mode_of, .func (PySem.W.fnOf "mode_of" "mode_of" (defArgs s_mode_of) (defBody s_mode_of) (defScope s_mode_of) .none kV_mode_of dc_mode_of pm_mode_of an_mode_of cd_mode_of ct_mode_of), sl_mode_of⟩) (k1_mode_of : PySem.W.codeIn K cd_mode_of "mode_of" = true) (k2_mode_of : PySem.W.keepIn K (.ref f_mode_of) = true)
    (a_holds : PySem.W.nsIn K mainGlobals "holds" = some (some (.ref f_holds))) (l_holds : K.lookup f_holds = some ⟨oc_holds, od_holds, .func (PySem.W.fnOf "holds" "holds" (defArgs s_holds) (defBody s_holds) (defScope s_holds) .none kV_holds dc_holds pm_holds an_holds cd_holds ct_holds), sl_holds⟩) (k1_holds : PySem.W.codeIn K cd_holds "holds" = true) (k2_holds : PySem.W.keepIn K (.ref f_holds) = true)
    (a_may_put : PySem.W.nsIn K mainGlobals "may_put" = some (some (.ref f_may_put))) (l_may_put : K.lookup f_may_put = some ⟨oc_may_put, od_may_put, .func (PySem.W.fnOf "may_put" "may_put" (defArgs s_may_put) (defBody s_may_put) (defScope s_may_put) .none kV_may_put dc_may_put pm_may_put an_may_put cd_may_put ct_may_put), sl_may_put⟩) (k1_may_put : PySem.W.codeIn K cd_may_put "may_put" = true) (k2_may_put : PySem.W.keepIn K (.ref f_may_put) = true)
    (a_end_raw : PySem.W.nsIn K mainGlobals "end_raw" = some (some (.ref f_end_raw))) (l_end_raw : K.lookup f_end_raw = some ⟨oc_end_raw, od_end_raw, .func (PySem.W.fnOf "end_raw" "end_raw" (defArgs s_end_raw) (defBody s_end_raw) (defScope s_end_raw) .none kV_end_raw dc_end_raw pm_end_raw an_end_raw cd_end_raw ct_end_raw), sl_end_raw⟩) (k1_end_raw : PySem.W.codeIn K cd_end_raw "end_raw" = true) (k2_end_raw : PySem.W.keepIn K (.ref f_end_raw) = true)
    (a_put_ratio : PySem.W.nsIn K mainGlobals "put_ratio" = some (some (.ref f_put_ratio))) (l_put_ratio : K.lookup f_put_ratio = some ⟨oc_put_ratio, od_put_ratio, .func (PySem.W.fnOf "put_ratio" "put_ratio" (defArgs s_put_ratio) (defBody s_put_ratio) (defScope s_put_ratio) .none kV_put_ratio dc_put_ratio pm_put_ratio an_put_ratio cd_put_ratio ct_put_ratio), sl_put_ratio⟩) (k1_put_ratio : PySem.W.codeIn K cd_put_ratio "put_ratio" = true) (k2_put_ratio : PySem.W.keepIn K (.ref f_put_ratio) = true)
    (a_put_fixed : PySem.W.nsIn K mainGlobals "put_fixed" = some (some (.ref f_put_fixed))) (l_put_fixed : K.lookup f_put_fixed = some ⟨oc_put_fixed, od_put_fixed, .func (PySem.W.fnOf "put_fixed" "put_fixed" (defArgs s_put_fixed) (defBody s_put_fixed) (defScope s_put_fixed) .none kV_put_fixed dc_put_fixed pm_put_fixed an_put_fixed cd_put_fixed ct_put_fixed), sl_put_fixed⟩) (k1_put_fixed : PySem.W.codeIn K cd_put_fixed "put_fixed" = true) (k2_put_fixed : PySem.W.keepIn K (.ref f_put_fixed) = true)
    (a_put_float : PySem.W.nsIn K mainGlobals "put_float" = some (some (.ref f_put_float))) (l_put_float : K.lookup f_put_float = some ⟨oc_put_float, od_put_float, .func (PySem.W.fnOf "put_float" "put_float" (defArgs s_put_float) (defBody s_put_float) (defScope s_put_float) .none kV_put_float dc_put_float pm_put_float an_put_float cd_put_float ct_put_float), sl_put_float⟩) (k1_put_float : PySem.W.codeIn K cd_put_float "put_float" = true) (k2_put_float : PySem.W.keepIn K (.ref f_put_float) = true)
    (a_are_good : PySem.W.nsIn K mainGlobals "are_good" = some (some (.ref f_are_good))) (l_are_good : K.lookup f_are_good = some ⟨oc_are_good, od_are_good, .func (PySem.W.fnOf "are_good" "are_good" (defArgs s_are_good) (defBody s_are_good) (defScope s_are_good) .none kV_are_good dc_are_good pm_are_good an_are_good cd_are_good ct_are_good), sl_are_good⟩) (k1_are_good : PySem.W.codeIn K cd_are_good "are_good" = true) (k2_are_good : PySem.W.keepIn K (.ref f_are_good) = true)
    (a_may_look_up : PySem.W.nsIn K mainGlobals "may_look_up" = some (some (.ref f_may_look_up))) (l_may_look_up : K.lookup f_may_look_up = some ⟨oc_may_look_up, od_may_look_up, .func (PySem.W.fnOf "may_look_up" "may_look_up" (defArgs s_may_look_up) (defBody s_may_look_up) (defScope s_may_look_up) .none kV_may_look_up dc_may_look_up pm_may_look_up an_may_look_up cd_may_look_up ct_may_look_up), sl_may_look_up⟩) (k1_may_look_up : PySem.W.codeIn K cd_may_look_up "may_look_up" = true) (k2_may_look_up : PySem.W.keepIn K (.ref f_may_look_up) = true)
    (a_worths_of : PySem.W.nsIn K mainGlobals "worths_of" = some (some (.ref f_worths_of))) (l_worths_of : K.lookup f_worths_of = some ⟨oc_worths_of, od_worths_of, .func (PySem.W.fnOf "worths_of" "worths_of" (defArgs s_worths_of) (defBody s_worths_of) (defScope s_worths_of) .none kV_worths_of dc_worths_of pm_worths_of an_worths_of cd_worths_of ct_worths_of), sl_worths_of⟩) (k1_worths_of : PySem.W.codeIn K cd_worths_of "worths_of" = true) (k2_worths_of : PySem.W.keepIn K (.ref f_worths_of) = true)
    (a_rise : PySem.W.nsIn K mainGlobals "rise" = some (some (.ref f_rise))) (l_rise : K.lookup f_rise = some ⟨oc_rise, od_rise, .func (PySem.W.fnOf "rise" "rise" (defArgs s_rise) (defBody s_rise) (defScope s_rise) .none kV_rise dc_rise pm_rise an_rise cd_rise ct_rise), sl_rise⟩) (k1_rise : PySem.W.codeIn K cd_rise "rise" = true) (k2_rise : PySem.W.keepIn K (.ref f_rise) = true)
    (a_looked_up : PySem.W.nsIn K mainGlobals "looked_up" = some (some (.ref f_looked_up))) (l_looked_up : K.lookup f_looked_up = some ⟨oc_looked_up, od_looked_up, .func (PySem.W.fnOf "looked_up" "looked_up" (defArgs s_looked_up) (defBody s_looked_up) (defScope s_looked_up) .none kV_looked_up dc_looked_up pm_looked_up an_looked_up cd_looked_up ct_looked_up), sl_looked_up⟩) (k1_looked_up : PySem.W.codeIn K cd_looked_up "looked_up" = true) (k2_looked_up : PySem.W.keepIn K (.ref f_looked_up) = true)
    (a_table : PySem.W.nsIn K mainGlobals "table" = some (some (.ref f_table))) (l_table : K.lookup f_table = some ⟨oc_table, od_table, .func (PySem.W.fnOf "table" "table" (defArgs s_table) (defBody s_table) (defScope s_table) .none kV_table dc_table pm_table an_table cd_table ct_table), sl_table⟩) (k1_table : PySem.W.codeIn K cd_table "table" = true) (k2_table : PySem.W.keepIn K (.ref f_table) = true)
    (ac_Ratio : PySem.W.nsIn K mainGlobals "Ratio" = some (some (.ref a_Ratio))) (a_Ratio_init : PySem.W.findIn K (.ref a_Ratio) "__init__" = some (some (.ref f_Ratio_init))) (n_Ratio_init : PySem.W.isFn K (.ref f_Ratio_init) = true) (l_Ratio_init : K.lookup f_Ratio_init = some ⟨oc_Ratio_init, od_Ratio_init, .func (PySem.W.fnOf "__init__" "Ratio.__init__" (defArgs s_Ratio_init) (defBody s_Ratio_init) (defScope s_Ratio_init) .none kV_Ratio_init dc_Ratio_init pm_Ratio_init an_Ratio_init cd_Ratio_init ct_Ratio_init), sl_Ratio_init⟩) (k1_Ratio_init : PySem.W.codeIn K cd_Ratio_init "Ratio.__init__" = true) (k2_Ratio_init : PySem.W.keepIn K (.ref f_Ratio_init) = true) (pg_Ratio : PySem.W.plainGet K a_Ratio Str.empty = true) (hd_Ratio : PySem.W.hasDictIn K a_Ratio = true) (po_Ratio : PySem.W.plainOver K a_Ratio = true) (sa_Ratio : PySem.W.findIn K (.ref a_Ratio) "__setattr__" = some (some (.builtin "object.__setattr__"))) (mk_Ratio : PySem.W.makesIn K a_Ratio = true) (kc_Ratio : PySem.W.keepIn K (.ref a_Ratio) = true)
    (na_Ratio_top : PySem.W.findIn K (.ref a_Ratio) "top" = some none)
    (na_Ratio_bottom : PySem.W.findIn K (.ref a_Ratio) "bottom" = some none)
    (g_TRUTH : PySem.W.nsIn K mainGlobals "TRUTH" = some (some (.int (0) tk_TRUTH)))
    (g_SIGNED : PySem.W.nsIn K mainGlobals "SIGNED" = some (some (.int (1) tk_SIGNED)))
    (g_UNSIGNED : PySem.W.nsIn K mainGlobals "UNSIGNED" = some (some (.int (2) tk_UNSIGNED)))
    (g_FLOAT : PySem.W.nsIn K mainGlobals "FLOAT" = some (some (.int (3) tk_FLOAT)))
    (g_T : PySem.W.nsIn K mainGlobals "T" = some (some (.int (2048) tk_T)))
    (g_F32 : PySem.W.nsIn K mainGlobals "F32" = some (some (.int (204800) tk_F32)))
    (g_F64 : PySem.W.nsIn K mainGlobals "F64" = some (some (.int (212992) tk_F64)))
    (g_WIDTHS : PySem.W.nsIn K mainGlobals "WIDTHS" = some (some (.ref a_WIDTHS))) (h_WIDTHS : K.lookup a_WIDTHS = some o_WIDTHS) (i_WIDTHS : seqTC o_WIDTHS [.int (8), .int (16), .int (32), .int (64)] = true)
    (g_FRACTION_BITS : PySem.W.nsIn K mainGlobals "FRACTION_BITS" = some (some (.ref a_FRACTION_BITS))) (h_FRACTION_BITS : K.lookup a_FRACTION_BITS = some o_FRACTION_BITS) (i_FRACTION_BITS : dictC o_FRACTION_BITS [(32, .int (23)), (64, .int (52))] = true)
    (g_LOWEST_PLACES : PySem.W.nsIn K mainGlobals "LOWEST_PLACES" = some (some (.ref a_LOWEST_PLACES))) (h_LOWEST_PLACES : K.lookup a_LOWEST_PLACES = some o_LOWEST_PLACES) (i_LOWEST_PLACES : dictC o_LOWEST_PLACES [(32, .int (149)), (64, .int (1074))] = true)
    (g_INEXACT : PySem.W.nsIn K mainGlobals "INEXACT" = some (some (.int (1) tk_INEXACT)))
    (g_HELD : PySem.W.nsIn K mainGlobals "HELD" = some (some (.int (4) tk_HELD)))
    (g_NEAREST_EVEN : PySem.W.nsIn K mainGlobals "NEAREST_EVEN" = some (some (.int (0) tk_NEAREST_EVEN)))
    (g_TOWARD_NOUGHT : PySem.W.nsIn K mainGlobals "TOWARD_NOUGHT" = some (some (.int (1) tk_TOWARD_NOUGHT)))
    (g_UP : PySem.W.nsIn K mainGlobals "UP" = some (some (.int (2) tk_UP)))
    (g_DOWN : PySem.W.nsIn K mainGlobals "DOWN" = some (some (.int (3) tk_DOWN)))
    (g_NEAREST_FAR : PySem.W.nsIn K mainGlobals "NEAREST_FAR" = some (some (.int (4) tk_NEAREST_FAR)))
    (g_MOST_POINTS : PySem.W.nsIn K mainGlobals "MOST_POINTS" = some (some (.int (256) tk_MOST_POINTS)))
    (g_WRONG_ARGUMENT : PySem.W.nsIn K mainGlobals "WRONG_ARGUMENT" = some (some (.int (-1) tk_WRONG_ARGUMENT)))
    (g_NOT_FITTING : PySem.W.nsIn K mainGlobals "NOT_FITTING" = some (some (.int (-9) tk_NOT_FITTING)))
    (n_abs : PySem.W.nsIn K mainGlobals "abs" = some none)
    (n_all : PySem.W.nsIn K mainGlobals "all" = some none)
    (n_len : PySem.W.nsIn K mainGlobals "len" = some none)
    (n_max : PySem.W.nsIn K mainGlobals "max" = some none)
    (n_range : PySem.W.nsIn K mainGlobals "range" = some none) : Txt K mg :=
  { f_kind_of := f_kind_of, fd_kind_of := _, F_kind_of := fun_mk l_kind_of k1_kind_of k2_kind_of, m_kind_of := PySem.W.mg_of X G a_kind_of,
    f_width_of := f_width_of, fd_width_of := _, F_width_of := fun_mk l_width_of k1_width_of k2_width_of, m_width_of := PySem.W.mg_of X G a_width_of,
    f_point_of := f_point_of, fd_point_of := _, F_point_of := fun_mk l_point_of k1_point_of k2_point_of, m_point_of := PySem.W.mg_of X G a_point_of,
    f_is_format := f_is_format, fd_is_format := _, F_is_format := fun_mk l_is_format k1_is_format k2_is_format, m_is_format := PySem.W.mg_of X G a_is_format,
    f_sign_bit := f_sign_bit, fd_sign_bit := _, F_sign_bit := fun_mk l_sign_bit k1_sign_bit k2_sign_bit, m_sign_bit := PySem.W.mg_of X G a_sign_bit,
    f_infinity_raw := f_infinity_raw, fd_infinity_raw := _, F_infinity_raw := fun_mk l_infinity_raw k1_infinity_raw k2_infinity_raw, m_infinity_raw := PySem.W.mg_of X G a_infinity_raw,
    f_greatest_raw := f_greatest_raw, fd_greatest_raw := _, F_greatest_raw := fun_mk l_greatest_raw k1_greatest_raw k2_greatest_raw, m_greatest_raw := PySem.W.mg_of X G a_greatest_raw,
    f_least_raw := f_least_raw, fd_least_raw := _, F_least_raw := fun_mk l_least_raw k1_least_raw k2_least_raw, m_least_raw := PySem.W.mg_of X G a_least_raw,
    f_common_divisor := f_common_divisor, fd_common_divisor := _, F_common_divisor := fun_mk l_common_divisor k1_common_divisor k2_common_divisor, m_common_divisor := PySem.W.mg_of X G a_common_divisor,
    f_plus := f_plus, fd_plus := _, F_plus := fun_mk l_plus k1_plus k2_plus, m_plus := PySem.W.mg_of X G a_plus,
    f_minus := f_minus, fd_minus := _, F_minus := fun_mk l_minus k1_minus k2_minus, m_minus := PySem.W.mg_of X G a_minus,
    f_times := f_times, fd_times := _, F_times := fun_mk l_times k1_times k2_times, m_times := PySem.W.mg_of X G a_times,
    f_over := f_over, fd_over := _, F_over := fun_mk l_over k1_over k2_over, m_over := PySem.W.mg_of X G a_over,
    f_is_less := f_is_less, fd_is_less := _, F_is_less := fun_mk l_is_less k1_is_less k2_is_less, m_is_less := PySem.W.mg_of X G a_is_less,
    f_fits_width := f_fits_width, fd_fits_width := _, F_fits_width := fun_mk l_fits_width k1_fits_width k2_fits_width, m_fits_width := PySem.W.mg_of X G a_fits_width,
    f_is_raw := f_is_raw, fd_is_raw := _, F_is_raw := fun_mk l_is_raw k1_is_raw k2_is_raw, m_is_raw := PySem.W.mg_of X G a_is_raw,
    f_is_good := f_is_good, fd_is_good := _, F_is_good := fun_mk l_is_good k1_is_good k2_is_good, m_is_good := PySem.W.mg_of X G a_is_good,
    f_steps_of := f_steps_of, fd_steps_of := _, F_steps_of := fun_mk l_steps_of k1_steps_of k2_steps_of, m_steps_of := PySem.W.mg_of X G a_steps_of,
    f_float_worth := f_float_worth, fd_float_worth := _, F_float_worth := fun_mk l_float_worth k1_float_worth k2_float_worth, m_float_worth := PySem.W.mg_of X G a_float_worth,
    f_worth_of := f_worth_of, fd_worth_of := _, F_worth_of := fun_mk l_worth_of k1_worth_of k2_worth_of, m_worth_of := PySem.W.mg_of X G a_worth_of,
    f_is_mode := f_is_mode, fd_is_mode := _, F_is_mode := fun_mk l_is_mode k1_is_mode k2_is_mode, m_is_mode := PySem.W.mg_of X G a_is_mode,
    f_in_steps := f_in_steps, fd_in_steps := _, F_in_steps := fun_mk l_in_steps k1_in_steps k2_in_steps, m_in_steps := PySem.W.mg_of X G a_in_steps,
    f_leading_place := f_leading_place, fd_leading_place := _, F_leading_place := fun_mk l_leading_place k1_leading_place k2_leading_place, m_leading_place := PySem.W.mg_of X G a_leading_place,
    f_quarters := f_quarters, fd_quarters := _, F_quarters := fun_mk l_quarters k1_quarters k2_quarters, m_quarters := PySem.W.mg_of X G a_quarters,
    f_is_whole := f_is_whole, fd_is_whole := _, F_is_whole := fun_mk l_is_whole k1_is_whole k2_is_whole, m_is_whole := PySem.W.mg_of X G a_is_whole,
    f_goes_far := f_goes_far, fd_goes_far := _, F_goes_far := fun_mk l_goes_far k1_goes_far k2_goes_far, m_goes_far := PySem.W.mg_of X G a_goes_far,
    f_rounded := f_rounded, fd_rounded := _, F_rounded := fun_mk l_rounded k1_rounded k2_rounded, m_rounded := PySem.W.mg_of X G a_rounded,
    f_mode_of := f_mode_of, fd_mode_of := _, F_mode_of := fun_mk l_mode_of k1_mode_of k2_mode_of, m_mode_of := PySem.W.mg_of X G a_mode_of,
    f_holds := f_holds, fd_holds := _, F_holds := fun_mk l_holds k1_holds k2_holds, m_holds := PySem.W.mg_of X G a_holds,
    f_may_put := f_may_put, fd_may_put := _, F_may_put := fun_mk l_may_put k1_may_put k2_may_put, m_may_put := PySem.W.mg_of X G a_may_put,
    f_end_raw := f_end_raw, fd_end_raw := _, F_end_raw := fun_mk l_end_raw k1_end_raw k2_end_raw, m_end_raw := PySem.W.mg_of X G a_end_raw,
    f_put_ratio := f_put_ratio, fd_put_ratio := _, F_put_ratio := fun_mk l_put_ratio k1_put_ratio k2_put_ratio, m_put_ratio := PySem.W.mg_of X G a_put_ratio,
    f_put_fixed := f_put_fixed, fd_put_fixed := _, F_put_fixed := fun_mk l_put_fixed k1_put_fixed k2_put_fixed, m_put_fixed := PySem.W.mg_of X G a_put_fixed,
    f_put_float := f_put_float, fd_put_float := _, F_put_float := fun_mk l_put_float k1_put_float k2_put_float, m_put_float := PySem.W.mg_of X G a_put_float,
    f_are_good := f_are_good, fd_are_good := _, F_are_good := fun_mk l_are_good k1_are_good k2_are_good, m_are_good := PySem.W.mg_of X G a_are_good,
    f_may_look_up := f_may_look_up, fd_may_look_up := _, F_may_look_up := fun_mk l_may_look_up k1_may_look_up k2_may_look_up, m_may_look_up := PySem.W.mg_of X G a_may_look_up,
    f_worths_of := f_worths_of, fd_worths_of := _, F_worths_of := fun_mk l_worths_of k1_worths_of k2_worths_of, m_worths_of := PySem.W.mg_of X G a_worths_of,
    f_rise := f_rise, fd_rise := _, F_rise := fun_mk l_rise k1_rise k2_rise, m_rise := PySem.W.mg_of X G a_rise,
    f_looked_up := f_looked_up, fd_looked_up := _, F_looked_up := fun_mk l_looked_up k1_looked_up k2_looked_up, m_looked_up := PySem.W.mg_of X G a_looked_up,
    f_table := f_table, fd_table := _, F_table := fun_mk l_table k1_table k2_table, m_table := PySem.W.mg_of X G a_table,
    a_Ratio := a_Ratio, f_Ratio_init := f_Ratio_init, fd_Ratio_init := _, F_Ratio_init := fun_mk l_Ratio_init k1_Ratio_init k2_Ratio_init, m_Ratio := PySem.W.mg_of X G ac_Ratio, cl_Ratio := ⟨pg_Ratio, hd_Ratio, po_Ratio, sa_Ratio⟩, mk_Ratio := ⟨mk_Ratio, a_Ratio_init, n_Ratio_init, kc_Ratio⟩,
    na_Ratio_top := na_Ratio_top,
    na_Ratio_bottom := na_Ratio_bottom,
    c_TRUTH := ⟨_, PySem.W.mg_of X G g_TRUTH, ⟨_, rfl⟩⟩,
    c_SIGNED := ⟨_, PySem.W.mg_of X G g_SIGNED, ⟨_, rfl⟩⟩,
    c_UNSIGNED := ⟨_, PySem.W.mg_of X G g_UNSIGNED, ⟨_, rfl⟩⟩,
    c_FLOAT := ⟨_, PySem.W.mg_of X G g_FLOAT, ⟨_, rfl⟩⟩,
    c_T := ⟨_, PySem.W.mg_of X G g_T, ⟨_, rfl⟩⟩,
    c_F32 := ⟨_, PySem.W.mg_of X G g_F32, ⟨_, rfl⟩⟩,
    c_F64 := ⟨_, PySem.W.mg_of X G g_F64, ⟨_, rfl⟩⟩,
    a_WIDTHS := a_WIDTHS, c_WIDTHS := ⟨_, PySem.W.mg_of X G g_WIDTHS, rfl⟩, q_WIDTHS := fun H => seqT_of h_WIDTHS i_WIDTHS,
    a_FRACTION_BITS := a_FRACTION_BITS, c_FRACTION_BITS := ⟨_, PySem.W.mg_of X G g_FRACTION_BITS, rfl⟩, q_FRACTION_BITS := dict_of h_FRACTION_BITS i_FRACTION_BITS,
    a_LOWEST_PLACES := a_LOWEST_PLACES, c_LOWEST_PLACES := ⟨_, PySem.W.mg_of X G g_LOWEST_PLACES, rfl⟩, q_LOWEST_PLACES := dict_of h_LOWEST_PLACES i_LOWEST_PLACES,
    c_INEXACT := ⟨_, PySem.W.mg_of X G g_INEXACT, ⟨_, rfl⟩⟩,
    c_HELD := ⟨_, PySem.W.mg_of X G g_HELD, ⟨_, rfl⟩⟩,
    c_NEAREST_EVEN := ⟨_, PySem.W.mg_of X G g_NEAREST_EVEN, ⟨_, rfl⟩⟩,
    c_TOWARD_NOUGHT := ⟨_, PySem.W.mg_of X G g_TOWARD_NOUGHT, ⟨_, rfl⟩⟩,
    c_UP := ⟨_, PySem.W.mg_of X G g_UP, ⟨_, rfl⟩⟩,
    c_DOWN := ⟨_, PySem.W.mg_of X G g_DOWN, ⟨_, rfl⟩⟩,
    c_NEAREST_FAR := ⟨_, PySem.W.mg_of X G g_NEAREST_FAR, ⟨_, rfl⟩⟩,
    c_MOST_POINTS := ⟨_, PySem.W.mg_of X G g_MOST_POINTS, ⟨_, rfl⟩⟩,
    c_WRONG_ARGUMENT := ⟨_, PySem.W.mg_of X G g_WRONG_ARGUMENT, ⟨_, rfl⟩⟩,
    c_NOT_FITTING := ⟨_, PySem.W.mg_of X G g_NOT_FITTING, ⟨_, rfl⟩⟩,
    n_abs := PySem.W.mg_none_of X G n_abs,
    n_all := PySem.W.mg_none_of X G n_all,
    n_len := PySem.W.mg_none_of X G n_len,
    n_max := PySem.W.mg_none_of X G n_max,
    n_range := PySem.W.mg_none_of X G n_range }
theorem all_mk {P : Program} {w : World} {fa : Addr} {K : PySem.W.Frag} {h : Heap} {mg : Str → Option Value} (X : K.In h) (G : h.Ns mainGlobals mg)
    {f_kind_of : Addr} {od_kind_of an_kind_of : Option Addr} {sl_kind_of : Array (Option Value)} {oc_kind_of kV_kind_of dc_kind_of pm_kind_of cd_kind_of ct_kind_of : Value}
    {f_width_of : Addr} {od_width_of an_width_of : Option Addr} {sl_width_of : Array (Option Value)} {oc_width_of kV_width_of dc_width_of pm_width_of cd_width_of ct_width_of : Value}
    {f_point_of : Addr} {od_point_of an_point_of : Option Addr} {sl_point_of : Array (Option Value)} {oc_point_of kV_point_of dc_point_of pm_point_of cd_point_of ct_point_of : Value}
    {f_is_format : Addr} {od_is_format an_is_format : Option Addr} {sl_is_format : Array (Option Value)} {oc_is_format kV_is_format dc_is_format pm_is_format cd_is_format ct_is_format : Value}
    {f_sign_bit : Addr} {od_sign_bit an_sign_bit : Option Addr} {sl_sign_bit : Array (Option Value)} {oc_sign_bit kV_sign_bit dc_sign_bit pm_sign_bit cd_sign_bit ct_sign_bit : Value}
    {f_infinity_raw : Addr} {od_infinity_raw an_infinity_raw : Option Addr} {sl_infinity_raw : Array (Option Value)} {oc_infinity_raw kV_infinity_raw dc_infinity_raw pm_infinity_raw cd_infinity_raw ct_infinity_raw : Value}
    {f_greatest_raw : Addr} {od_greatest_raw an_greatest_raw : Option Addr} {sl_greatest_raw : Array (Option Value)} {oc_greatest_raw kV_greatest_raw dc_greatest_raw pm_greatest_raw cd_greatest_raw ct_greatest_raw : Value}
    {f_least_raw : Addr} {od_least_raw an_least_raw : Option Addr} {sl_least_raw : Array (Option Value)} {oc_least_raw kV_least_raw dc_least_raw pm_least_raw cd_least_raw ct_least_raw : Value}
    {f_common_divisor : Addr} {od_common_divisor an_common_divisor : Option Addr} {sl_common_divisor : Array (Option Value)} {oc_common_divisor kV_common_divisor dc_common_divisor pm_common_divisor cd_common_divisor ct_common_divisor : Value}
    {f_plus : Addr} {od_plus an_plus : Option Addr} {sl_plus : Array (Option Value)} {oc_plus kV_plus dc_plus pm_plus cd_plus ct_plus : Value}
    {f_minus : Addr} {od_minus an_minus : Option Addr} {sl_minus : Array (Option Value)} {oc_minus kV_minus dc_minus pm_minus cd_minus ct_minus : Value}
    {f_times : Addr} {od_times an_times : Option Addr} {sl_times : Array (Option Value)} {oc_times kV_times dc_times pm_times cd_times ct_times : Value}
    {f_over : Addr} {od_over an_over : Option Addr} {sl_over : Array (Option Value)} {oc_over kV_over dc_over pm_over cd_over ct_over : Value}
    {f_is_less : Addr} {od_is_less an_is_less : Option Addr} {sl_is_less : Array (Option Value)} {oc_is_less kV_is_less dc_is_less pm_is_less cd_is_less ct_is_less : Value}
    {f_fits_width : Addr} {od_fits_width an_fits_width : Option Addr} {sl_fits_width : Array (Option Value)} {oc_fits_width kV_fits_width dc_fits_width pm_fits_width cd_fits_width ct_fits_width : Value}
    {f_is_raw : Addr} {od_is_raw an_is_raw : Option Addr} {sl_is_raw : Array (Option Value)} {oc_is_raw kV_is_raw dc_is_raw pm_is_raw cd_is_raw ct_is_raw : Value}
    {f_is_good : Addr} {od_is_good an_is_good : Option Addr} {sl_is_good : Array (Option Value)} {oc_is_good kV_is_good dc_is_good pm_is_good cd_is_good ct_is_good : Value}
    {f_steps_of : Addr} {od_steps_of an_steps_of : Option Addr} {sl_steps_of : Array (Option Value)} {oc_steps_of kV_steps_of dc_steps_of pm_steps_of cd_steps_of ct_steps_of : Value}
    {f_float_worth : Addr} {od_float_worth an_float_worth : Option Addr} {sl_float_worth : Array (Option Value)} {oc_float_worth kV_float_worth dc_float_worth pm_float_worth cd_float_worth ct_float_worth : Value}
    {f_worth_of : Addr} {od_worth_of an_worth_of : Option Addr} {sl_worth_of : Array (Option Value)} {oc_worth_of kV_worth_of dc_worth_of pm_worth_of cd_worth_of ct_worth_of : Value}
    {f_is_mode : Addr} {od_is_mode an_is_mode : Option Addr} {sl_is_mode : Array (Option Value)} {oc_is_mode kV_is_mode dc_is_mode pm_is_mode cd_is_mode ct_is_mode : Value}
    {f_in_steps : Addr} {od_in_steps an_in_steps : Option Addr} {sl_in_steps : Array (Option Value)} {oc_in_steps kV_in_steps dc_in_steps pm_in_steps cd_in_steps ct_in_steps : Value}
    {f_leading_place : Addr} {od_leading_place an_leading_place : Option Addr} {sl_leading_place : Array (Option Value)} {oc_leading_place kV_leading_place dc_leading_place pm_leading_place cd_leading_place ct_leading_place : Value}
    {f_quarters : Addr} {od_quarters an_quarters : Option Addr} {sl_quarters : Array (Option Value)} {oc_quarters kV_quarters dc_quarters pm_quarters cd_quarters ct_quarters : Value}
    {f_is_whole : Addr} {od_is_whole an_is_whole : Option Addr} {sl_is_whole : Array (Option Value)} {oc_is_whole kV_is_whole dc_is_whole pm_is_whole cd_is_whole ct_is_whole : Value}
    {f_goes_far : Addr} {od_goes_far an_goes_far : Option Addr} {sl_goes_far : Array (Option Value)} {oc_goes_far kV_goes_far dc_goes_far pm_goes_far cd_goes_far ct_goes_far : Value}
    {f_rounded : Addr} {od_rounded an_rounded : Option Addr} {sl_rounded : Array (Option Value)} {oc_rounded kV_rounded dc_rounded pm_rounded cd_rounded ct_rounded : Value}
    {f_mode_of : Addr} {od_mode_of an_mode_of : Option Addr} {sl_mode_of : Array (Option Value)} {oc_mode_of kV_mode_of dc_mode_of pm_mode_of cd_mode_of ct_mode_of : Value}
    {f_holds : Addr} {od_holds an_holds : Option Addr} {sl_holds : Array (Option Value)} {oc_holds kV_holds dc_holds pm_holds cd_holds ct_holds : Value}
    {f_may_put : Addr} {od_may_put an_may_put : Option Addr} {sl_may_put : Array (Option Value)} {oc_may_put kV_may_put dc_may_put pm_may_put cd_may_put ct_may_put : Value}
    {f_end_raw : Addr} {od_end_raw an_end_raw : Option Addr} {sl_end_raw : Array (Option Value)} {oc_end_raw kV_end_raw dc_end_raw pm_end_raw cd_end_raw ct_end_raw : Value}
    {f_put_ratio : Addr} {od_put_ratio an_put_ratio : Option Addr} {sl_put_ratio : Array (Option Value)} {oc_put_ratio kV_put_ratio dc_put_ratio pm_put_ratio cd_put_ratio ct_put_ratio : Value}
    {f_put_fixed : Addr} {od_put_fixed an_put_fixed : Option Addr} {sl_put_fixed : Array (Option Value)} {oc_put_fixed kV_put_fixed dc_put_fixed pm_put_fixed cd_put_fixed ct_put_fixed : Value}
    {f_put_float : Addr} {od_put_float an_put_float : Option Addr} {sl_put_float : Array (Option Value)} {oc_put_float kV_put_float dc_put_float pm_put_float cd_put_float ct_put_float : Value}
    {f_are_good : Addr} {od_are_good an_are_good : Option Addr} {sl_are_good : Array (Option Value)} {oc_are_good kV_are_good dc_are_good pm_are_good cd_are_good ct_are_good : Value}
    {f_may_look_up : Addr} {od_may_look_up an_may_look_up : Option Addr} {sl_may_look_up : Array (Option Value)} {oc_may_look_up kV_may_look_up dc_may_look_up pm_may_look_up cd_may_look_up ct_may_look_up : Value}
    {f_worths_of : Addr} {od_worths_of an_worths_of : Option Addr} {sl_worths_of : Array (Option Value)} {oc_worths_of kV_worths_of dc_worths_of pm_worths_of cd_worths_of ct_worths_of : Value}
    {f_rise : Addr} {od_rise an_rise : Option Addr} {sl_rise : Array (Option Value)} {oc_rise kV_rise dc_rise pm_rise cd_rise ct_rise : Value}
    {f_looked_up : Addr} {od_looked_up an_looked_up : Option Addr} {sl_looked_up : Array (Option Value)} {oc_looked_up kV_looked_up dc_looked_up pm_looked_up cd_looked_up ct_looked_up : Value}
    {f_table : Addr} {od_table an_table : Option Addr} {sl_table : Array (Option Value)} {oc_table kV_table dc_table pm_table cd_table ct_table : Value}
    {a_Ratio f_Ratio_init : Addr} {od_Ratio_init an_Ratio_init : Option Addr} {sl_Ratio_init : Array (Option Value)} {oc_Ratio_init kV_Ratio_init dc_Ratio_init pm_Ratio_init cd_Ratio_init ct_Ratio_init : Value}
    {tk_TRUTH : Tok}
    {tk_SIGNED : Tok}
    {tk_UNSIGNED : Tok}
    {tk_FLOAT : Tok}
    {tk_T : Tok}
    {tk_F32 : Tok}
    {tk_F64 : Tok}
    {a_WIDTHS : Addr} {o_WIDTHS : Obj}
    {a_FRACTION_BITS : Addr} {o_FRACTION_BITS : Obj}
    {a_LOWEST_PLACES : Addr} {o_LOWEST_PLACES : Obj}
    {tk_INEXACT : Tok}
    {tk_HELD : Tok}
    {tk_NEAREST_EVEN : Tok}
    {tk_TOWARD_NOUGHT : Tok}
    {tk_UP : Tok}
    {tk_DOWN : Tok}
    {tk_NEAREST_FAR : Tok}
    {tk_MOST_POINTS : Tok}
    {tk_WRONG_ARGUMENT : Tok}
    {tk_NOT_FITTING : Tok}
    (a_kind_of : PySem.W.nsIn K mainGlobals "kind_of" = some (some (.ref f_kind_of))) (l_kind_of : K.lookup f_kind_of = some ⟨oc_kind_of, od_kind_of, .func (PySem.W.fnOf "kind_of" "kind_of" (defArgs s_kind_of) (defBody s_kind_of) (defScope s_kind_of) .none kV_kind_of dc_kind_of pm_kind_of an_kind_of cd_kind_of ct_kind_of), sl_kind_of⟩) (k1_kind_of : PySem.W.codeIn K cd_kind_of "kind_of" = true) (k2_kind_of : PySem.W.keepIn K (.ref f_kind_of) = true)
    (a_width_of : PySem.W.nsIn K mainGlobals "width_of" = some (some (.ref f_width_of))) (l_width_of : K.lookup f_width_of = some ⟨oc_width_of, od_width_of, .func (PySem.W.fnOf "width_of" "width_of" (defArgs s_width_of) (defBody s_width_of) (defScope s_width_of) .none kV_width_of dc_width_of pm_width_of an_width_of cd_width_of ct_width_of), sl_width_of⟩) (k1_width_of : PySem.W.codeIn K cd_width_of "width_of" = true) (k2_width_of : PySem.W.keepIn K (.ref f_width_of) = true)
    (a_point_of : PySem.W.nsIn K mainGlobals "point_of" = some (some (.ref f_point_of))) (l_point_of : K.lookup f_point_of = some ⟨oc_point_of, od_point_of, .func (PySem.W.fnOf "point_of" "point_of" (defArgs s_point_of) (defBody s_point_of) (defScope s_point_of) .none kV_point_of dc_point_of pm_point_of an_point_of cd_point_of ct_point_of), sl_point_of⟩) (k1_point_of : PySem.W.codeIn K cd_point_of "point_of" = true) (k2_point_of : PySem.W.keepIn K (.ref f_point_of) = true)
    (a_is_format : PySem.W.nsIn K mainGlobals "is_format" = some (some (.ref f_is_format))) (l_is_format : K.lookup f_is_format = some ⟨oc_is_format, od_is_format, .func (PySem.W.fnOf "is_format" "is_format" (defArgs s_is_format) (defBody s_is_format) (defScope s_is_format) .none kV_is_format dc_is_format pm_is_format an_is_format cd_is_format ct_is_format), sl_is_format⟩) (k1_is_format : PySem.W.codeIn K cd_is_format "is_format" = true) (k2_is_format : PySem.W.keepIn K (.ref f_is_format) = true)
    (a_sign_bit : PySem.W.nsIn K mainGlobals "sign_bit" = some (some (.ref f_sign_bit))) (l_sign_bit : K.lookup f_sign_bit = some ⟨oc_sign_bit, od_sign_bit, .func (PySem.W.fnOf "sign_bit" "sign_bit" (defArgs s_sign_bit) (defBody s_sign_bit) (defScope s_sign_bit) .none kV_sign_bit dc_sign_bit pm_sign_bit an_sign_bit cd_sign_bit ct_sign_bit), sl_sign_bit⟩) (k1_sign_bit : PySem.W.codeIn K cd_sign_bit "sign_bit" = true) (k2_sign_bit : PySem.W.keepIn K (.ref f_sign_bit) = true)
    (a_infinity_raw : PySem.W.nsIn K mainGlobals "infinity_raw" = some (some (.ref f_infinity_raw))) (l_infinity_raw : K.lookup f_infinity_raw = some ⟨oc_infinity_raw, od_infinity_raw, .func (PySem.W.fnOf "infinity_raw" "infinity_raw" (defArgs s_infinity_raw) (defBody s_infinity_raw) (defScope s_infinity_raw) .none kV_infinity_raw dc_infinity_raw pm_infinity_raw an_infinity_raw cd_infinity_raw ct_infinity_raw), sl_infinity_raw⟩) (k1_infinity_raw : PySem.W.codeIn K cd_infinity_raw "infinity_raw" = true) (k2_infinity_raw : PySem.W.keepIn K (.ref f_infinity_raw) = true)
    (a_greatest_raw : PySem.W.nsIn K mainGlobals "greatest_raw" = some (some (.ref f_greatest_raw))) (l_greatest_raw : K.lookup f_greatest_raw = some ⟨oc_greatest_raw, od_greatest_raw, .func (PySem.W.fnOf "greatest_raw" "greatest_raw" (defArgs s_greatest_raw) (defBody s_greatest_raw) (defScope s_greatest_raw) .none kV_greatest_raw dc_greatest_raw pm_greatest_raw an_greatest_raw cd_greatest_raw ct_greatest_raw), sl_greatest_raw⟩) (k1_greatest_raw : PySem.W.codeIn K cd_greatest_raw "greatest_raw" = true) (k2_greatest_raw : PySem.W.keepIn K (.ref f_greatest_raw) = true)
    (a_least_raw : PySem.W.nsIn K mainGlobals "least_raw" = some (some (.ref f_least_raw))) (l_least_raw : K.lookup f_least_raw = some ⟨oc_least_raw, od_least_raw, .func (PySem.W.fnOf "least_raw" "least_raw" (defArgs s_least_raw) (defBody s_least_raw) (defScope s_least_raw) .none kV_least_raw dc_least_raw pm_least_raw an_least_raw cd_least_raw ct_least_raw), sl_least_raw⟩) (k1_least_raw : PySem.W.codeIn K cd_least_raw "least_raw" = true) (k2_least_raw : PySem.W.keepIn K (.ref f_least_raw) = true)
    (a_common_divisor : PySem.W.nsIn K mainGlobals "common_divisor" = some (some (.ref f_common_divisor))) (l_common_divisor : K.lookup f_common_divisor = some ⟨oc_common_divisor, od_common_divisor, .func (PySem.W.fnOf "common_divisor" "common_divisor" (defArgs s_common_divisor) (defBody s_common_divisor) (defScope s_common_divisor) .none kV_common_divisor dc_common_divisor pm_common_divisor an_common_divisor cd_common_divisor ct_common_divisor), sl_common_divisor⟩) (k1_common_divisor : PySem.W.codeIn K cd_common_divisor "common_divisor" = true) (k2_common_divisor : PySem.W.keepIn K (.ref f_common_divisor) = true)
    (a_plus : PySem.W.nsIn K mainGlobals "plus" = some (some (.ref f_plus))) (l_plus : K.lookup f_plus = some ⟨oc_plus, od_plus, .func (PySem.W.fnOf "plus" "plus" (defArgs s_plus) (defBody s_plus) (defScope s_plus) .none kV_plus dc_plus pm_plus an_plus cd_plus ct_plus), sl_plus⟩) (k1_plus : PySem.W.codeIn K cd_plus "plus" = true) (k2_plus : PySem.W.keepIn K (.ref f_plus) = true)
    (a_minus : PySem.W.nsIn K mainGlobals "minus" = some (some (.ref f_minus))) (l_minus : K.lookup f_minus = some ⟨oc_minus, od_minus, .func (PySem.W.fnOf "minus" "minus" (defArgs s_minus) (defBody s_minus) (defScope s_minus) .none kV_minus dc_minus pm_minus an_minus cd_minus ct_minus), sl_minus⟩) (k1_minus : PySem.W.codeIn K cd_minus "minus" = true) (k2_minus : PySem.W.keepIn K (.ref f_minus) = true)
    (a_times : PySem.W.nsIn K mainGlobals "times" = some (some (.ref f_times))) (l_times : K.lookup f_times = some ⟨oc_times, od_times, .func (PySem.W.fnOf "times" "times" (defArgs s_times) (defBody s_times) (defScope s_times) .none kV_times dc_times pm_times an_times cd_times ct_times), sl_times⟩) (k1_times : PySem.W.codeIn K cd_times "times" = true) (k2_times : PySem.W.keepIn K (.ref f_times) = true)
    (a_over : PySem.W.nsIn K mainGlobals "over" = some (some (.ref f_over))) (l_over : K.lookup f_over = some ⟨oc_over, od_over, .func (PySem.W.fnOf "over" "over" (defArgs s_over) (defBody s_over) (defScope s_over) .none kV_over dc_over pm_over an_over cd_over ct_over), sl_over⟩) (k1_over : PySem.W.codeIn K cd_over "over" = true) (k2_over : PySem.W.keepIn K (.ref f_over) = true)
    (a_is_less : PySem.W.nsIn K mainGlobals "is_less" = some (some (.ref f_is_less))) (l_is_less : K.lookup f_is_less = some ⟨oc_is_less, od_is_less, .func (PySem.W.fnOf "is_less" "is_less" (defArgs s_is_less) (defBody s_is_less) (defScope s_is_less) .none kV_is_less dc_is_less pm_is_less an_is_less cd_is_less ct_is_less), sl_is_less⟩) (k1_is_less : PySem.W.codeIn K cd_is_less "is_less" = true) (k2_is_less : PySem.W.keepIn K (.ref f_is_less) = true)
    (a_fits_width : PySem.W.nsIn K mainGlobals "fits_width" = some (some (.ref f_fits_width))) (l_fits_width : K.lookup f_fits_width = some ⟨oc_fits_width, od_fits_width, .func (PySem.W.fnOf "fits_width" "fits_width" (defArgs s_fits_width) (defBody s_fits_width) (defScope s_fits_width) .none kV_fits_width dc_fits_width pm_fits_width an_fits_width cd_fits_width ct_fits_width), sl_fits_width⟩) (k1_fits_width : PySem.W.codeIn K cd_fits_width "fits_width" = true) (k2_fits_width : PySem.W.keepIn K (.ref f_fits_width) = true)
    (a_is_raw : PySem.W.nsIn K mainGlobals "is_raw" = some (some (.ref f_is_raw))) (l_is_raw : K.lookup f_is_raw = some ⟨oc_is_raw, od_is_raw, .func (PySem.W.fnOf "is_raw" "is_raw" (defArgs s_is_raw) (defBody s_is_raw) (defScope s_is_raw) .none kV_is_raw dc_is_raw pm_is_raw an_is_raw cd_is_raw ct_is_raw), sl_is_raw⟩) (k1_is_raw : PySem.W.codeIn K cd_is_raw "is_raw" = true) (k2_is_raw : PySem.W.keepIn K (.ref f_is_raw) = true)
    (a_is_good : PySem.W.nsIn K mainGlobals "is_good" = some (some (.ref f_is_good))) (l_is_good : K.lookup f_is_good = some ⟨oc_is_good, od_is_good, .func (PySem.W.fnOf "is_good" "is_good" (defArgs s_is_good) (defBody s_is_good) (defScope s_is_good) .none kV_is_good dc_is_good pm_is_good an_is_good cd_is_good ct_is_good), sl_is_good⟩) (k1_is_good : PySem.W.codeIn K cd_is_good "is_good" = true) (k2_is_good : PySem.W.keepIn K (.ref f_is_good) = true)
    (a_steps_of : PySem.W.nsIn K mainGlobals "steps_of" = some (some (.ref f_steps_of))) (l_steps_of : K.lookup f_steps_of = some ⟨oc_steps_of, od_steps_of, .func (PySem.W.fnOf "steps_of" "steps_of" (defArgs s_steps_of) (defBody s_steps_of) (defScope s_steps_of) .none kV_steps_of dc_steps_of pm_steps_of an_steps_of cd_steps_of ct_steps_of), sl_steps_of⟩) (k1_steps_of : PySem.W.codeIn K cd_steps_of "steps_of" = true) (k2_steps_of : PySem.W.keepIn K (.ref f_steps_of) = true)
    (a_float_worth : PySem.W.nsIn K mainGlobals "float_worth" = some (some (.ref f_float_worth))) (l_float_worth : K.lookup f_float_worth = some ⟨oc_float_worth, od_float_worth, .func (PySem.W.fnOf "float_worth" "float_worth" (defArgs s_float_worth) (defBody s_float_worth) (defScope s_float_worth) .none kV_float_worth dc_float_worth pm_float_worth an_float_worth cd_float_worth ct_float_worth), sl_float_worth⟩) (k1_float_worth : PySem.W.codeIn K cd_float_worth "float_worth" = true) (k2_float_worth : PySem.W.keepIn K (.ref f_float_worth) = true)
    (a_worth_of : PySem.W.nsIn K mainGlobals "worth_of" = some (some (.ref f_worth_of))) (l_worth_of : K.lookup f_worth_of = some ⟨oc_worth_of, od_worth_of, .func (PySem.W.fnOf "worth_of" "worth_of" (defArgs s_worth_of) (defBody s_worth_of) (defScope s_worth_of) .none kV_worth_of dc_worth_of pm_worth_of an_worth_of cd_worth_of ct_worth_of), sl_worth_of⟩) (k1_worth_of : PySem.W.codeIn K cd_worth_of "worth_of" = true) (k2_worth_of : PySem.W.keepIn K (.ref f_worth_of) = true)
    (a_is_mode : PySem.W.nsIn K mainGlobals "is_mode" = some (some (.ref f_is_mode))) (l_is_mode : K.lookup f_is_mode = some ⟨oc_is_mode, od_is_mode, .func (PySem.W.fnOf "is_mode" "is_mode" (defArgs s_is_mode) (defBody s_is_mode) (defScope s_is_mode) .none kV_is_mode dc_is_mode pm_is_mode an_is_mode cd_is_mode ct_is_mode), sl_is_mode⟩) (k1_is_mode : PySem.W.codeIn K cd_is_mode "is_mode" = true) (k2_is_mode : PySem.W.keepIn K (.ref f_is_mode) = true)
    (a_in_steps : PySem.W.nsIn K mainGlobals "in_steps" = some (some (.ref f_in_steps))) (l_in_steps : K.lookup f_in_steps = some ⟨oc_in_steps, od_in_steps, .func (PySem.W.fnOf "in_steps" "in_steps" (defArgs s_in_steps) (defBody s_in_steps) (defScope s_in_steps) .none kV_in_steps dc_in_steps pm_in_steps an_in_steps cd_in_steps ct_in_steps), sl_in_steps⟩) (k1_in_steps : PySem.W.codeIn K cd_in_steps "in_steps" = true) (k2_in_steps : PySem.W.keepIn K (.ref f_in_steps) = true)
    (a_leading_place : PySem.W.nsIn K mainGlobals "leading_place" = some (some (.ref f_leading_place))) (l_leading_place : K.lookup f_leading_place = some ⟨oc_leading_place, od_leading_place, .func (PySem.W.fnOf "leading_place" "leading_place" (defArgs s_leading_place) (defBody s_leading_place) (defScope s_leading_place) .none kV_leading_place dc_leading_place pm_leading_place an_leading_place cd_leading_place ct_leading_place), sl_leading_place⟩) (k1_leading_place : PySem.W.codeIn K cd_leading_place "leading_place" = true) (k2_leading_place : PySem.W.keepIn K (.ref f_leading_place) = true)
    (a_quarters : PySem.W.nsIn K mainGlobals "quarters" = some (some (.ref f_quarters))) (l_quarters : K.lookup f_quarters = some ⟨oc_quarters, od_quarters, .func (PySem.W.fnOf "quarters" "quarters" (defArgs s_quarters) (defBody s_quarters) (defScope s_quarters) .none kV_quarters dc_quarters pm_quarters an_quarters cd_quarters ct_quarters), sl_quarters⟩) (k1_quarters : PySem.W.codeIn K cd_quarters "quarters" = true) (k2_quarters : PySem.W.keepIn K (.ref f_quarters) = true)
    (a_is_whole : PySem.W.nsIn K mainGlobals "is_whole" = some (some (.ref f_is_whole))) (l_is_whole : K.lookup f_is_whole = some ⟨oc_is_whole, od_is_whole, .func (PySem.W.fnOf "is_whole" "is_whole" (defArgs s_is_whole) (defBody s_is_whole) (defScope s_is_whole) .none kV_is_whole dc_is_whole pm_is_whole an_is_whole cd_is_whole ct_is_whole), sl_is_whole⟩) (k1_is_whole : PySem.W.codeIn K cd_is_whole "is_whole" = true) (k2_is_whole : PySem.W.keepIn K (.ref f_is_whole) = true)
    (a_goes_far : PySem.W.nsIn K mainGlobals "goes_far" = some (some (.ref f_goes_far))) (l_goes_far : K.lookup f_goes_far = some ⟨oc_goes_far, od_goes_far, .func (PySem.W.fnOf "goes_far" "goes_far" (defArgs s_goes_far) (defBody s_goes_far) (defScope s_goes_far) .none kV_goes_far dc_goes_far pm_goes_far an_goes_far cd_goes_far ct_goes_far), sl_goes_far⟩) (k1_goes_far : PySem.W.codeIn K cd_goes_far "goes_far" = true) (k2_goes_far : PySem.W.keepIn K (.ref f_goes_far) = true)
    (a_rounded : PySem.W.nsIn K mainGlobals "rounded" = some (some (.ref f_rounded))) (l_rounded : K.lookup f_rounded = some ⟨oc_rounded, od_rounded, .func (PySem.W.fnOf "rounded" "rounded" (defArgs s_rounded) (defBody s_rounded) (defScope s_rounded) .none kV_rounded dc_rounded pm_rounded an_rounded cd_rounded ct_rounded), sl_rounded⟩) (k1_rounded : PySem.W.codeIn K cd_rounded "rounded" = true) (k2_rounded : PySem.W.keepIn K (.ref f_rounded) = true)
    (a_mode_of : PySem.W.nsIn K mainGlobals "mode_of" = some (some (.ref f_mode_of))) (l_mode_of : K.lookup f_mode_of = some ⟨oc_mode_of, od_mode_of, .func (PySem.W.fnOf "mode_of" "mode_of" (defArgs s_mode_of) (defBody s_mode_of) (defScope s_mode_of) .none kV_mode_of dc_mode_of pm_mode_of an_mode_of cd_mode_of ct_mode_of), sl_mode_of⟩) (k1_mode_of : PySem.W.codeIn K cd_mode_of "mode_of" = true) (k2_mode_of : PySem.W.keepIn K (.ref f_mode_of) = true)
    (a_holds : PySem.W.nsIn K mainGlobals "holds" = some (some (.ref f_holds))) (l_holds : K.lookup f_holds = some ⟨oc_holds, od_holds, .func (PySem.W.fnOf "holds" "holds" (defArgs s_holds) (defBody s_holds) (defScope s_holds) .none kV_holds dc_holds pm_holds an_holds cd_holds ct_holds), sl_holds⟩) (k1_holds : PySem.W.codeIn K cd_holds "holds" = true) (k2_holds : PySem.W.keepIn K (.ref f_holds) = true)
    (a_may_put : PySem.W.nsIn K mainGlobals "may_put" = some (some (.ref f_may_put))) (l_may_put : K.lookup f_may_put = some ⟨oc_may_put, od_may_put, .func (PySem.W.fnOf "may_put" "may_put" (defArgs s_may_put) (defBody s_may_put) (defScope s_may_put) .none kV_may_put dc_may_put pm_may_put an_may_put cd_may_put ct_may_put), sl_may_put⟩) (k1_may_put : PySem.W.codeIn K cd_may_put "may_put" = true) (k2_may_put : PySem.W.keepIn K (.ref f_may_put) = true)
    (a_end_raw : PySem.W.nsIn K mainGlobals "end_raw" = some (some (.ref f_end_raw))) (l_end_raw : K.lookup f_end_raw = some ⟨oc_end_raw, od_end_raw, .func (PySem.W.fnOf "end_raw" "end_raw" (defArgs s_end_raw) (defBody s_end_raw) (defScope s_end_raw) .none kV_end_raw dc_end_raw pm_end_raw an_end_raw cd_end_raw ct_end_raw), sl_end_raw⟩) (k1_end_raw : PySem.W.codeIn K cd_end_raw "end_raw" = true) (k2_end_raw : PySem.W.keepIn K (.ref f_end_raw) = true)
    (a_put_ratio : PySem.W.nsIn K mainGlobals "put_ratio" = some (some (.ref f_put_ratio))) (l_put_ratio : K.lookup f_put_ratio = some ⟨oc_put_ratio, od_put_ratio, .func (PySem.W.fnOf "put_ratio" "put_ratio" (defArgs s_put_ratio) (defBody s_put_ratio) (defScope s_put_ratio) .none kV_put_ratio dc_put_ratio pm_put_ratio an_put_ratio cd_put_ratio ct_put_ratio), sl_put_ratio⟩) (k1_put_ratio : PySem.W.codeIn K cd_put_ratio "put_ratio" = true) (k2_put_ratio : PySem.W.keepIn K (.ref f_put_ratio) = true)
    (a_put_fixed : PySem.W.nsIn K mainGlobals "put_fixed" = some (some (.ref f_put_fixed))) (l_put_fixed : K.lookup f_put_fixed = some ⟨oc_put_fixed, od_put_fixed, .func (PySem.W.fnOf "put_fixed" "put_fixed" (defArgs s_put_fixed) (defBody s_put_fixed) (defScope s_put_fixed) .none kV_put_fixed dc_put_fixed pm_put_fixed an_put_fixed cd_put_fixed ct_put_fixed), sl_put_fixed⟩) (k1_put_fixed : PySem.W.codeIn K cd_put_fixed "put_fixed" = true) (k2_put_fixed : PySem.W.keepIn K (.ref f_put_fixed) = true)
    (a_put_float : PySem.W.nsIn K mainGlobals "put_float" = some (some (.ref f_put_float))) (l_put_float : K.lookup f_put_float = some ⟨oc_put_float, od_put_float, .func (PySem.W.fnOf "put_float" "put_float" (defArgs s_put_float) (defBody s_put_float) (defScope s_put_float) .none kV_put_float dc_put_float pm_put_float an_put_float cd_put_float ct_put_float), sl_put_float⟩) (k1_put_float : PySem.W.codeIn K cd_put_float "put_float" = true) (k2_put_float : PySem.W.keepIn K (.ref f_put_float) = true)
    (a_are_good : PySem.W.nsIn K mainGlobals "are_good" = some (some (.ref f_are_good))) (l_are_good : K.lookup f_are_good = some ⟨oc_are_good, od_are_good, .func (PySem.W.fnOf "are_good" "are_good" (defArgs s_are_good) (defBody s_are_good) (defScope s_are_good) .none kV_are_good dc_are_good pm_are_good an_are_good cd_are_good ct_are_good), sl_are_good⟩) (k1_are_good : PySem.W.codeIn K cd_are_good "are_good" = true) (k2_are_good : PySem.W.keepIn K (.ref f_are_good) = true)
    (a_may_look_up : PySem.W.nsIn K mainGlobals "may_look_up" = some (some (.ref f_may_look_up))) (l_may_look_up : K.lookup f_may_look_up = some ⟨oc_may_look_up, od_may_look_up, .func (PySem.W.fnOf "may_look_up" "may_look_up" (defArgs s_may_look_up) (defBody s_may_look_up) (defScope s_may_look_up) .none kV_may_look_up dc_may_look_up pm_may_look_up an_may_look_up cd_may_look_up ct_may_look_up), sl_may_look_up⟩) (k1_may_look_up : PySem.W.codeIn K cd_may_look_up "may_look_up" = true) (k2_may_look_up : PySem.W.keepIn K (.ref f_may_look_up) = true)
    (a_worths_of : PySem.W.nsIn K mainGlobals "worths_of" = some (some (.ref f_worths_of))) (l_worths_of : K.lookup f_worths_of = some ⟨oc_worths_of, od_worths_of, .func (PySem.W.fnOf "worths_of" "worths_of" (defArgs s_worths_of) (defBody s_worths_of) (defScope s_worths_of) .none kV_worths_of dc_worths_of pm_worths_of an_worths_of cd_worths_of ct_worths_of), sl_worths_of⟩) (k1_worths_of : PySem.W.codeIn K cd_worths_of "worths_of" = true) (k2_worths_of : PySem.W.keepIn K (.ref f_worths_of) = true)
    (a_rise : PySem.W.nsIn K mainGlobals "rise" = some (some (.ref f_rise))) (l_rise : K.lookup f_rise = some ⟨oc_rise, od_rise, .func (PySem.W.fnOf "rise" "rise" (defArgs s_rise) (defBody s_rise) (defScope s_rise) .none kV_rise dc_rise pm_rise an_rise cd_rise ct_rise), sl_rise⟩) (k1_rise : PySem.W.codeIn K cd_rise "rise" = true) (k2_rise : PySem.W.keepIn K (.ref f_rise) = true)
    (a_looked_up : PySem.W.nsIn K mainGlobals "looked_up" = some (some (.ref f_looked_up))) (l_looked_up : K.lookup f_looked_up = some ⟨oc_looked_up, od_looked_up, .func (PySem.W.fnOf "looked_up" "looked_up" (defArgs s_looked_up) (defBody s_looked_up) (defScope s_looked_up) .none kV_looked_up dc_looked_up pm_looked_up an_looked_up cd_looked_up ct_looked_up), sl_looked_up⟩) (k1_looked_up : PySem.W.codeIn K cd_looked_up "looked_up" = true) (k2_looked_up : PySem.W.keepIn K (.ref f_looked_up) = true)
    (a_table : PySem.W.nsIn K mainGlobals "table" = some (some (.ref f_table))) (l_table : K.lookup f_table = some ⟨oc_table, od_table, .func (PySem.W.fnOf "table" "table" (defArgs s_table) (defBody s_table) (defScope s_table) .none kV_table dc_table pm_table an_table cd_table ct_table), sl_table⟩) (k1_table : PySem.W.codeIn K cd_table "table" = true) (k2_table : PySem.W.keepIn K (.ref f_table) = true)
    (ac_Ratio : PySem.W.nsIn K mainGlobals "Ratio" = some (some (.ref a_Ratio))) (a_Ratio_init : PySem.W.findIn K (.ref a_Ratio) "__init__" = some (some (.ref f_Ratio_init))) (n_Ratio_init : PySem.W.isFn K (.ref f_Ratio_init) = true) (l_Ratio_init : K.lookup f_Ratio_init = some ⟨oc_Ratio_init, od_Ratio_init, .func (PySem.W.fnOf "__init__" "Ratio.__init__" (defArgs s_Ratio_init) (defBody s_Ratio_init) (defScope s_Ratio_init) .none kV_Ratio_init dc_Ratio_init pm_Ratio_init an_Ratio_init cd_Ratio_init ct_Ratio_init), sl_Ratio_init⟩) (k1_Ratio_init : PySem.W.codeIn K cd_Ratio_init "Ratio.__init__" = true) (k2_Ratio_init : PySem.W.keepIn K (.ref f_Ratio_init) = true) (pg_Ratio : PySem.W.plainGet K a_Ratio Str.empty = true) (hd_Ratio : PySem.W.hasDictIn K a_Ratio = true) (po_Ratio : PySem.W.plainOver K a_Ratio = true) (sa_Ratio : PySem.W.findIn K (.ref a_Ratio) "__setattr__" = some (some (.builtin "object.__setattr__"))) (mk_Ratio : PySem.W.makesIn K a_Ratio = true) (kc_Ratio : PySem.W.keepIn K (.ref a_Ratio) = true)
    (na_Ratio_top : PySem.W.findIn K (.ref a_Ratio) "top" = some none)
    (na_Ratio_bottom : PySem.W.findIn K (.ref a_Ratio) "bottom" = some none)
    (g_TRUTH : PySem.W.nsIn K mainGlobals "TRUTH" = some (some (.int (0) tk_TRUTH)))
    (g_SIGNED : PySem.W.nsIn K mainGlobals "SIGNED" = some (some (.int (1) tk_SIGNED)))
    (g_UNSIGNED : PySem.W.nsIn K mainGlobals "UNSIGNED" = some (some (.int (2) tk_UNSIGNED)))
    (g_FLOAT : PySem.W.nsIn K mainGlobals "FLOAT" = some (some (.int (3) tk_FLOAT)))
    (g_T : PySem.W.nsIn K mainGlobals "T" = some (some (.int (2048) tk_T)))
    (g_F32 : PySem.W.nsIn K mainGlobals "F32" = some (some (.int (204800) tk_F32)))
    (g_F64 : PySem.W.nsIn K mainGlobals "F64" = some (some (.int (212992) tk_F64)))
    (g_WIDTHS : PySem.W.nsIn K mainGlobals "WIDTHS" = some (some (.ref a_WIDTHS))) (h_WIDTHS : K.lookup a_WIDTHS = some o_WIDTHS) (i_WIDTHS : seqTC o_WIDTHS [.int (8), .int (16), .int (32), .int (64)] = true)
    (g_FRACTION_BITS : PySem.W.nsIn K mainGlobals "FRACTION_BITS" = some (some (.ref a_FRACTION_BITS))) (h_FRACTION_BITS : K.lookup a_FRACTION_BITS = some o_FRACTION_BITS) (i_FRACTION_BITS : dictC o_FRACTION_BITS [(32, .int (23)), (64, .int (52))] = true)
    (g_LOWEST_PLACES : PySem.W.nsIn K mainGlobals "LOWEST_PLACES" = some (some (.ref a_LOWEST_PLACES))) (h_LOWEST_PLACES : K.lookup a_LOWEST_PLACES = some o_LOWEST_PLACES) (i_LOWEST_PLACES : dictC o_LOWEST_PLACES [(32, .int (149)), (64, .int (1074))] = true)
    (g_INEXACT : PySem.W.nsIn K mainGlobals "INEXACT" = some (some (.int (1) tk_INEXACT)))
    (g_HELD : PySem.W.nsIn K mainGlobals "HELD" = some (some (.int (4) tk_HELD)))
    (g_NEAREST_EVEN : PySem.W.nsIn K mainGlobals "NEAREST_EVEN" = some (some (.int (0) tk_NEAREST_EVEN)))
    (g_TOWARD_NOUGHT : PySem.W.nsIn K mainGlobals "TOWARD_NOUGHT" = some (some (.int (1) tk_TOWARD_NOUGHT)))
    (g_UP : PySem.W.nsIn K mainGlobals "UP" = some (some (.int (2) tk_UP)))
    (g_DOWN : PySem.W.nsIn K mainGlobals "DOWN" = some (some (.int (3) tk_DOWN)))
    (g_NEAREST_FAR : PySem.W.nsIn K mainGlobals "NEAREST_FAR" = some (some (.int (4) tk_NEAREST_FAR)))
    (g_MOST_POINTS : PySem.W.nsIn K mainGlobals "MOST_POINTS" = some (some (.int (256) tk_MOST_POINTS)))
    (g_WRONG_ARGUMENT : PySem.W.nsIn K mainGlobals "WRONG_ARGUMENT" = some (some (.int (-1) tk_WRONG_ARGUMENT)))
    (g_NOT_FITTING : PySem.W.nsIn K mainGlobals "NOT_FITTING" = some (some (.int (-9) tk_NOT_FITTING)))
    (n_abs : PySem.W.nsIn K mainGlobals "abs" = some none)
    (n_all : PySem.W.nsIn K mainGlobals "all" = some none)
    (n_len : PySem.W.nsIn K mainGlobals "len" = some none)
    (n_max : PySem.W.nsIn K mainGlobals "max" = some none)
    (n_range : PySem.W.nsIn K mainGlobals "range" = some none) (hfa : mg "table" = some (.ref fa)) :
    ∃ fd : FuncData, (∀ (s : Shared) (us : List Value), us.length = (["c", "r", "xc", "yc", "f", "how", "xs", "ys"] : List Str).length → BindsTo s fd ⟨us, []⟩ ((["c", "r", "xc", "yc", "f", "how", "xs", "ys"] : List Str).zip us)) ∧ ∀ base : Heap, K.In base → base.Ns mainGlobals mg → FnOk P w K mg base CX0 9 fa fd ["c", "r", "xc", "yc", "f", "how", "xs", "ys"] (sp_table K) := by
  have T0 : ∃ T : Txt K mg, True := ⟨txt_mk X G a_kind_of l_kind_of k1_kind_of k2_kind_of a_width_of l_width_of k1_width_of k2_width_of a_point_of l_point_of k1_point_of k2_point_of a_is_format l_is_format k1_is_format k2_is_format a_sign_bit l_sign_bit k1_sign_bit k2_sign_bit a_infinity_raw l_infinity_raw k1_infinity_raw k2_infinity_raw a_greatest_raw l_greatest_raw k1_greatest_raw k2_greatest_raw a_least_raw l_least_raw k1_least_raw k2_least_raw a_common_divisor l_common_divisor k1_common_divisor k2_common_divisor a_plus l_plus k1_plus k2_plus a_minus l_minus k1_minus k2_minus a_times l_times k1_times k2_times a_over l_over k1_over k2_over a_is_less l_is_less k1_is_less k2_is_less a_fits_width l_fits_width k1_fits_width k2_fits_width a_is_raw l_is_raw k1_is_raw k2_is_raw a_is_good l_is_good k1_is_good k2_is_good a_steps_of l_steps_of k1_steps_of k2_steps_of a_float_worth l_float_worth k1_float_worth k2_float_worth a_worth_of l_worth_of k1_worth_of k2_worth_of a_is_mode l_is_mode k1_is_mode k2_is_mode a_in_steps l_in_steps k1_in_steps k2_in_steps a_leading_place l_leading_place k1_leading_place k2_leading_place a_quarters l_quarters k1_quarters k2_quarters a_is_whole l_is_whole k1_is_whole k2_is_whole a_goes_far l_goes_far k1_goes_far k2_goes_far a_rounded l_rounded k1_rounded k2_rounded a_mode_of l_mode_of k1_mode_of k2_mode_of a_holds l_holds k1_holds k2_holds a_may_put l_may_put k1_may_put k2_may_put a_end_raw l_end_raw k1_end_raw k2_end_raw a_put_ratio l_put_ratio k1_put_ratio k2_put_ratio a_put_fixed l_put_fixed k1_put_fixed k2_put_fixed a_put_float l_put_float k1_put_float k2_put_float a_are_good l_are_good k1_are_good k2_are_good a_may_look_up l_may_look_up k1_may_look_up k2_may_look_up a_worths_of l_worths_of k1_worths_of k2_worths_of a_rise l_rise k1_rise k2_rise a_looked_up l_looked_up k1_looked_up k2_looked_up a_table l_table k1_table k2_table ac_Ratio a_Ratio_init n_Ratio_init l_Ratio_init k1_Ratio_init k2_Ratio_init pg_Ratio hd_Ratio po_Ratio sa_Ratio mk_Ratio kc_Ratio na_Ratio_top na_Ratio_bottom g_TRUTH g_SIGNED g_UNSIGNED g_FLOAT g_T g_F32 g_F64 g_WIDTHS h_WIDTHS i_WIDTHS g_FRACTION_BITS h_FRACTION_BITS i_FRACTION_BITS g_LOWEST_PLACES h_LOWEST_PLACES i_LOWEST_PLACES g_INEXACT g_HELD g_NEAREST_EVEN g_TOWARD_NOUGHT g_UP g_DOWN g_NEAREST_FAR g_MOST_POINTS g_WRONG_ARGUMENT g_NOT_FITTING n_abs n_all n_len n_max n_range, trivial⟩
  obtain ⟨T, _⟩ := T0
  have e := hfa.symm.trans T.m_table
  cases e
  exact ⟨T.fd_table, bt_table T, fun base _ _ => ok_table T⟩
end Py
open PySem PySem.W PyProof.Rows
set_option maxRecDepth 100000 in
set_option maxHeartbeats 0 in
theorem PySem.Challenge.cw_exactraws_s13_table_holds : PySem.Challenge.rw_exactraws_s13_table.Holds := by
  w_on; k_headS; (case hw => exact ⟨[.int 0, .int 0, .int 0, .int 0, .int 0, .int 0, .list [], .list []], by decide +kernel, by decide +kernel⟩)
  k_fillS
  refine L2.walk_specK (r := PySem.Challenge.rw_exactraws_s13_table) (k := 9) (CX := L2.CX0) (ps := ["c", "r", "xc", "yc", "f", "how", "xs", "ys"]) (sp := Py.sp_table) (by decide +kernel) rfl rfl ⟨rfl, by decide, by decide⟩ (fun w h Y => PySem.W.kIn_of Y) ?F ?S (fun _ _ _ _ z => z)
  case F =>
    intro w mg fa h Y KX G hmg
    refine' Py.all_mk KX G ?a_kind_of ?l_kind_of ?k1_kind_of ?k2_kind_of ?a_width_of ?l_width_of ?k1_width_of ?k2_width_of ?a_point_of ?l_point_of ?k1_point_of ?k2_point_of ?a_is_format ?l_is_format ?k1_is_format ?k2_is_format ?a_sign_bit ?l_sign_bit ?k1_sign_bit ?k2_sign_bit ?a_infinity_raw ?l_infinity_raw ?k1_infinity_raw ?k2_infinity_raw ?a_greatest_raw ?l_greatest_raw ?k1_greatest_raw ?k2_greatest_raw ?a_least_raw ?l_least_raw ?k1_least_raw ?k2_least_raw ?a_common_divisor ?l_common_divisor ?k1_common_divisor ?k2_common_divisor ?a_plus ?l_plus ?k1_plus ?k2_plus ?a_minus ?l_minus ?k1_minus ?k2_minus ?a_times ?l_times ?k1_times ?k2_times ?a_over ?l_over ?k1_over ?k2_over ?a_is_less ?l_is_less ?k1_is_less ?k2_is_less ?a_fits_width ?l_fits_width ?k1_fits_width ?k2_fits_width ?a_is_raw ?l_is_raw ?k1_is_raw ?k2_is_raw ?a_is_good ?l_is_good ?k1_is_good ?k2_is_good ?a_steps_of ?l_steps_of ?k1_steps_of ?k2_steps_of ?a_float_worth ?l_float_worth ?k1_float_worth ?k2_float_worth ?a_worth_of ?l_worth_of ?k1_worth_of ?k2_worth_of ?a_is_mode ?l_is_mode ?k1_is_mode ?k2_is_mode ?a_in_steps ?l_in_steps ?k1_in_steps ?k2_in_steps ?a_leading_place ?l_leading_place ?k1_leading_place ?k2_leading_place ?a_quarters ?l_quarters ?k1_quarters ?k2_quarters ?a_is_whole ?l_is_whole ?k1_is_whole ?k2_is_whole ?a_goes_far ?l_goes_far ?k1_goes_far ?k2_goes_far ?a_rounded ?l_rounded ?k1_rounded ?k2_rounded ?a_mode_of ?l_mode_of ?k1_mode_of ?k2_mode_of ?a_holds ?l_holds ?k1_holds ?k2_holds ?a_may_put ?l_may_put ?k1_may_put ?k2_may_put ?a_end_raw ?l_end_raw ?k1_end_raw ?k2_end_raw ?a_put_ratio ?l_put_ratio ?k1_put_ratio ?k2_put_ratio ?a_put_fixed ?l_put_fixed ?k1_put_fixed ?k2_put_fixed ?a_put_float ?l_put_float ?k1_put_float ?k2_put_float ?a_are_good ?l_are_good ?k1_are_good ?k2_are_good ?a_may_look_up ?l_may_look_up ?k1_may_look_up ?k2_may_look_up ?a_worths_of ?l_worths_of ?k1_worths_of ?k2_worths_of ?a_rise ?l_rise ?k1_rise ?k2_rise ?a_looked_up ?l_looked_up ?k1_looked_up ?k2_looked_up ?a_table ?l_table ?k1_table ?k2_table ?ac_Ratio ?a_Ratio_init ?n_Ratio_init ?l_Ratio_init ?k1_Ratio_init ?k2_Ratio_init ?pg_Ratio ?hd_Ratio ?po_Ratio ?sa_Ratio ?mk_Ratio ?kc_Ratio ?na_Ratio_top ?na_Ratio_bottom ?g_TRUTH ?g_SIGNED ?g_UNSIGNED ?g_FLOAT ?g_T ?g_F32 ?g_F64 ?g_WIDTHS ?h_WIDTHS ?i_WIDTHS ?g_FRACTION_BITS ?h_FRACTION_BITS ?i_FRACTION_BITS ?g_LOWEST_PLACES ?h_LOWEST_PLACES ?i_LOWEST_PLACES ?g_INEXACT ?g_HELD ?g_NEAREST_EVEN ?g_TOWARD_NOUGHT ?g_UP ?g_DOWN ?g_NEAREST_FAR ?g_MOST_POINTS ?g_WRONG_ARGUMENT ?g_NOT_FITTING ?n_abs ?n_all ?n_len ?n_max ?n_range hmg
    (case a_kind_of => k_is)
    (case l_kind_of => k_is)
    (case k1_kind_of => k_is)
    (case k2_kind_of => k_is)
    (case a_width_of => k_is)
    (case l_width_of => k_is)
    (case k1_width_of => k_is)
    (case k2_width_of => k_is)
    (case a_point_of => k_is)
    (case l_point_of => k_is)
    (case k1_point_of => k_is)
    (case k2_point_of => k_is)
    (case a_is_format => k_is)
    (case l_is_format => k_is)
    (case k1_is_format => k_is)
    (case k2_is_format => k_is)
    (case a_sign_bit => k_is)
    (case l_sign_bit => k_is)
    (case k1_sign_bit => k_is)
    (case k2_sign_bit => k_is)
    (case a_infinity_raw => k_is)
    (case l_infinity_raw => k_is)
    (case k1_infinity_raw => k_is)
    (case k2_infinity_raw => k_is)
    (case a_greatest_raw => k_is)
    (case l_greatest_raw => k_is)
    (case k1_greatest_raw => k_is)
    (case k2_greatest_raw => k_is)
    (case a_least_raw => k_is)
    (case l_least_raw => k_is)
    (case k1_least_raw => k_is)
    (case k2_least_raw => k_is)
    (case a_common_divisor => k_is)
    (case l_common_divisor => k_is)
    (case k1_common_divisor => k_is)
    (case k2_common_divisor => k_is)
    (case a_plus => k_is)
    (case l_plus => k_is)
    (case k1_plus => k_is)
    (case k2_plus => k_is)
    (case a_minus => k_is)
    (case l_minus => k_is)
    (case k1_minus => k_is)
    (case k2_minus => k_is)
    (case a_times => k_is)
    (case l_times => k_is)
    (case k1_times => k_is)
    (case k2_times => k_is)
    (case a_over => k_is)
    (case l_over => k_is)
    (case k1_over => k_is)
    (case k2_over => k_is)
    (case a_is_less => k_is)
    (case l_is_less => k_is)
    (case k1_is_less => k_is)
    (case k2_is_less => k_is)
    (case a_fits_width => k_is)
    (case l_fits_width => k_is)
    (case k1_fits_width => k_is)
    (case k2_fits_width => k_is)
    (case a_is_raw => k_is)
    (case l_is_raw => k_is)
    (case k1_is_raw => k_is)
    (case k2_is_raw => k_is)
    (case a_is_good => k_is)
    (case l_is_good => k_is)
    (case k1_is_good => k_is)
    (case k2_is_good => k_is)
    (case a_steps_of => k_is)
    (case l_steps_of => k_is)
    (case k1_steps_of => k_is)
    (case k2_steps_of => k_is)
    (case a_float_worth => k_is)
    (case l_float_worth => k_is)
    (case k1_float_worth => k_is)
    (case k2_float_worth => k_is)
    (case a_worth_of => k_is)
    (case l_worth_of => k_is)
    (case k1_worth_of => k_is)
    (case k2_worth_of => k_is)
    (case a_is_mode => k_is)
    (case l_is_mode => k_is)
    (case k1_is_mode => k_is)
    (case k2_is_mode => k_is)
    (case a_in_steps => k_is)
    (case l_in_steps => k_is)
    (case k1_in_steps => k_is)
    (case k2_in_steps => k_is)
    (case a_leading_place => k_is)
    (case l_leading_place => k_is)
    (case k1_leading_place => k_is)
    (case k2_leading_place => k_is)
    (case a_quarters => k_is)
    (case l_quarters => k_is)
    (case k1_quarters => k_is)
    (case k2_quarters => k_is)
    (case a_is_whole => k_is)
    (case l_is_whole => k_is)
    (case k1_is_whole => k_is)
    (case k2_is_whole => k_is)
    (case a_goes_far => k_is)
    (case l_goes_far => k_is)
    (case k1_goes_far => k_is)
    (case k2_goes_far => k_is)
    (case a_rounded => k_is)
    (case l_rounded => k_is)
    (case k1_rounded => k_is)
    (case k2_rounded => k_is)
    (case a_mode_of => k_is)
    (case l_mode_of => k_is)
    (case k1_mode_of => k_is)
    (case k2_mode_of => k_is)
    (case a_holds => k_is)
    (case l_holds => k_is)
    (case k1_holds => k_is)
    (case k2_holds => k_is)
    (case a_may_put => k_is)
    (case l_may_put => k_is)
    (case k1_may_put => k_is)
    (case k2_may_put => k_is)
    (case a_end_raw => k_is)
    (case l_end_raw => k_is)
    (case k1_end_raw => k_is)
    (case k2_end_raw => k_is)
    (case a_put_ratio => k_is)
    (case l_put_ratio => k_is)
    (case k1_put_ratio => k_is)
    (case k2_put_ratio => k_is)
    (case a_put_fixed => k_is)
    (case l_put_fixed => k_is)
    (case k1_put_fixed => k_is)
    (case k2_put_fixed => k_is)
    (case a_put_float => k_is)
    (case l_put_float => k_is)
    (case k1_put_float => k_is)
    (case k2_put_float => k_is)
    (case a_are_good => k_is)
    (case l_are_good => k_is)
    (case k1_are_good => k_is)
    (case k2_are_good => k_is)
    (case a_may_look_up => k_is)
    (case l_may_look_up => k_is)
    (case k1_may_look_up => k_is)
    (case k2_may_look_up => k_is)
    (case a_worths_of => k_is)
    (case l_worths_of => k_is)
    (case k1_worths_of => k_is)
    (case k2_worths_of => k_is)
    (case a_rise => k_is)
    (case l_rise => k_is)
    (case k1_rise => k_is)
    (case k2_rise => k_is)
    (case a_looked_up => k_is)
    (case l_looked_up => k_is)
    (case k1_looked_up => k_is)
    (case k2_looked_up => k_is)
    (case a_table => k_is)
    (case l_table => k_is)
    (case k1_table => k_is)
    (case k2_table => k_is)
    (case ac_Ratio => k_is)
    (case a_Ratio_init => k_is)
    (case n_Ratio_init => k_is)
    (case l_Ratio_init => k_is)
    (case k1_Ratio_init => k_is)
    (case k2_Ratio_init => k_is)
    (case pg_Ratio => k_is)
    (case hd_Ratio => k_is)
    (case po_Ratio => k_is)
    (case sa_Ratio => k_is)
    (case mk_Ratio => k_is)
    (case kc_Ratio => k_is)
    (case na_Ratio_top => k_is)
    (case na_Ratio_bottom => k_is)
    (case g_TRUTH => k_is)
    (case g_SIGNED => k_is)
    (case g_UNSIGNED => k_is)
    (case g_FLOAT => k_is)
    (case g_T => k_is)
    (case g_F32 => k_is)
    (case g_F64 => k_is)
    (case g_WIDTHS => k_is)
    (case h_WIDTHS => k_is)
    (case i_WIDTHS => decide +kernel)
    (case g_FRACTION_BITS => k_is)
    (case h_FRACTION_BITS => k_is)
    (case i_FRACTION_BITS => decide +kernel)
    (case g_LOWEST_PLACES => k_is)
    (case h_LOWEST_PLACES => k_is)
    (case i_LOWEST_PLACES => decide +kernel)
    (case g_INEXACT => k_is)
    (case g_HELD => k_is)
    (case g_NEAREST_EVEN => k_is)
    (case g_TOWARD_NOUGHT => k_is)
    (case g_UP => k_is)
    (case g_DOWN => k_is)
    (case g_NEAREST_FAR => k_is)
    (case g_MOST_POINTS => k_is)
    (case g_WRONG_ARGUMENT => k_is)
    (case g_NOT_FITTING => k_is)
    (case n_abs => k_is)
    (case n_all => k_is)
    (case n_len => k_is)
    (case n_max => k_is)
    (case n_range => k_is)
  case S =>
    intro K H xs a hO hwi hask hx
    cases hx with
    | cons h1 hx =>
      cases h1
      cases hx with
      | cons h1 hx =>
        cases h1
        cases hx with
        | cons h1 hx =>
          cases h1
          cases hx with
          | cons h1 hx =>
            cases h1
            cases hx with
            | cons h1 hx =>
              cases h1
              cases hx with
              | cons h1 hx =>
                cases h1
                cases hx with
                | cons h1 hx =>
                  cases h1 with
                  | lst hs6 ha6 =>
                    have e6 := L2.ints_dw a.2.2.2.2.2.2.1 _ ha6
                    subst e6
                    cases hx with
                    | cons h1 hx =>
                      cases h1 with
                      | lst hs7 ha7 =>
                        have e7 := L2.ints_dw a.2.2.2.2.2.2.2.1 _ ha7
                        subst e7
                        cases hx
                        refine ⟨a.1, a.2.1, a.2.2.1, a.2.2.2.1, a.2.2.2.2.1, a.2.2.2.2.2.1, _, a.2.2.2.2.2.2.1, _, a.2.2.2.2.2.2.2.1, rfl, hs6, hs7, trivial, fun H' p hp => ?_⟩
                        exact .lst (L2.SqL.of hp) (L2.dw_ints _)
