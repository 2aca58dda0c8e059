import PyProof.Rows.All
import Wide.All
import OpenK.AllK
import Wide.FinOn
import PyProof.EqAt
import PyProof.EqKinds
import PyProof.TupleCall
import KE.BitLaws
import Open.SpecLaws
import KE.OsHead
import KE.OsGo
import PySem.Challenge.RW_exactraws_s14_read
set_option Elab.async false
set_option linter.all false
set_option maxRecDepth 100000
set_option exponentiation.threshold 100000
namespace L2
noncomputable def Sz (n : Nat) (i : Int) : Prop := i.natAbs < 2 ^ n
instance szDec (n : Nat) (i : Int) : Decidable (Sz n i) := inferInstanceAs (Decidable (i.natAbs < 2 ^ n))
theorem Sz.mono {m n : Nat} {i : Int} (h : Sz m i) (l : m ≤ n) : Sz n i := Nat.lt_of_lt_of_le h (Nat.pow_le_pow_right (by decide) l)
noncomputable def dictI : List (Int × Int) → Int → Int
  | [], _ => 0
  | (a, v) :: r, k => if a = k then v else dictI r k
noncomputable abbrev absI (i : Int) : Int := if i < 0 then -i else i
noncomputable abbrev maxI (i j : Int) : Int := if j > i then j else i
noncomputable def bitsI (i : Int) : Int := if i = 0 then 0 else ((i.natAbs.log2 + 1 : Nat) : Int)
theorem not_t {b : Bool} (h : (!b) = true) : b = false := by cases b <;> simp_all
theorem not_f {b : Bool} (h : (!b) = false) : b = true := by cases b <;> simp_all
theorem Sz.lit {n : Nat} {i : Int} (h : i.natAbs < 2 ^ n) : Sz n i := h
theorem Sz.neg {n : Nat} {i : Int} (h : Sz n i) : Sz n (-i) := by unfold Sz at *; rw [Int.natAbs_neg]; exact h
theorem Sz.abs {n : Nat} {i : Int} (h : Sz n i) : Sz n (absI i) := by
  unfold Sz absI at *
  split
  · rw [Int.natAbs_neg]; exact h
  · exact h
theorem Sz.mul {m n : Nat} {i j : Int} (h : Sz m i) (g : Sz n j) : Sz (m + n) (i * j) := by
  unfold Sz at *
  rw [Int.natAbs_mul, Nat.pow_add]
  have h1 : i.natAbs * j.natAbs ≤ i.natAbs * 2 ^ n := Nat.mul_le_mul_left _ (Nat.le_of_lt g)
  have h2 : i.natAbs * 2 ^ n < 2 ^ m * 2 ^ n := Nat.mul_lt_mul_of_pos_right h (Nat.pow_pos (by decide))
  omega
theorem Sz.shl {m : Nat} {i : Int} {k n : Nat} (h : Sz m i) (hk : k ≤ n) : Sz (m + n) (i * 2 ^ k) := by
  unfold Sz at *
  rw [Int.natAbs_mul, Int.natAbs_pow, Nat.pow_add]
  show i.natAbs * 2 ^ k < _
  have h1 : i.natAbs * 2 ^ k ≤ i.natAbs * 2 ^ n := Nat.mul_le_mul_left _ (Nat.pow_le_pow_right (by decide) hk)
  have h2 : i.natAbs * 2 ^ n < 2 ^ m * 2 ^ n := Nat.mul_lt_mul_of_pos_right h (Nat.pow_pos (by decide))
  omega
theorem Sz.of_le {n : Nat} {i j : Int} (h : Sz n j) (l : i.natAbs ≤ j.natAbs) : Sz n i := Nat.lt_of_le_of_lt l h
theorem Sz.log {n : Nat} {i : Int} (h : Sz n i) (h0 : 0 < n) : i.natAbs.log2 < n := by
  by_cases c : i.natAbs = 0
  · rw [c]; exact h0
  · exact (Nat.log2_lt c).mpr h
theorem Sz.bitsI {n : Nat} {i : Int} (h : Sz n i) : 0 ≤ L2.bitsI i ∧ L2.bitsI i ≤ n := by
  unfold L2.bitsI
  split
  · omega
  · rename_i c
    have : i.natAbs.log2 < n := (Nat.log2_lt (by omega)).mpr h
    omega
end L2

set_option Elab.async false
set_option linter.all false
set_option maxRecDepth 100000
namespace L2
open PySem PySem.Spec PyProof.Rows
noncomputable abbrev Key := Sum Int Str
noncomputable def keyIs : Key → Value → Bool
  | .inl k, v => Value.isInt k v
  | .inr x, v => Value.isStrOf x v
noncomputable def keyH (w : World) : Key → Int
  | .inl k => hashInt k
  | .inr x => hashStr w x
theorem keyIs_shape : ∀ {k : Key} {v : Value}, keyIs k v = true → (∃ i t, k = Sum.inl i ∧ v = Value.int i t) ∨ (∃ x t, k = Sum.inr x ∧ v = Value.str x t)
  | .inl i, v, h => by
    obtain ⟨t, e⟩ := Value.isInt_shape (k := i) (v := v) h
    exact .inl ⟨i, t, rfl, e⟩
  | .inr x, v, h => by
    obtain ⟨t, e⟩ := Value.isStrOf_shape (x := x) (v := v) h
    exact .inr ⟨x, t, rfl, e⟩
theorem key_ll (a b : Int) : decide ((Sum.inl a : Key) = Sum.inl b) = (a == b) := by
  by_cases e : a = b
  · subst e; simp
  · have h : ¬ (Sum.inl a : Key) = Sum.inl b := fun q => e (Sum.inl.inj q)
    rw [decide_eq_false h]
    exact (beq_eq_false_iff_ne.mpr e).symm
theorem key_rr (a b : Str) : decide ((Sum.inr a : Key) = Sum.inr b) = decide (a = b) := by
  by_cases e : a = b
  · subst e; simp
  · have h : ¬ (Sum.inr a : Key) = Sum.inr b := fun q => e (Sum.inr.inj q)
    rw [decide_eq_false h, decide_eq_false e]
theorem key_lr (a : Int) (b : Str) : decide ((Sum.inl a : Key) = Sum.inr b) = false := decide_eq_false (fun q => nomatch q)
theorem key_rl (a : Str) (b : Int) : decide ((Sum.inr a : Key) = Sum.inl b) = false := decide_eq_false (fun q => nomatch q)

noncomputable def mixKind (prog : Program) (w : World) : PySem.KeyKind prog w Key where
  is := keyIs
  hash := keyH w
  inj := fun v a b ha hb => by
    rcases keyIs_shape ha with ⟨i, t, rfl, rfl⟩ | ⟨x, t, rfl, rfl⟩
    · rcases keyIs_shape hb with ⟨j, u, rfl, e⟩ | ⟨y, u, rfl, e⟩
      · injection e with e1 _; rw [e1]
      · exact nomatch e
    · rcases keyIs_shape hb with ⟨j, u, rfl, e⟩ | ⟨y, u, rfl, e⟩
      · exact nomatch e
      · injection e with e1 _; rw [e1]
  byValue := fun k v h => by
    rcases keyIs_shape h with ⟨i, t, rfl, rfl⟩ | ⟨x, t, rfl, rfl⟩ <;> rfl
  pyHash := fun hv h => by
    rcases keyIs_shape hv with ⟨i, t, rfl, rfl⟩ | ⟨x, t, rfl, rfl⟩
    · exact wpAny_pyHash_int h
    · exact wpAny_pyHash_str h
  eqBool := fun hu hv h => by
    rcases keyIs_shape hu with ⟨i, t, rfl, rfl⟩ | ⟨x, t, rfl, rfl⟩
    · rcases keyIs_shape hv with ⟨j, u, rfl, rfl⟩ | ⟨y, u, rfl, rfl⟩
      · rw [key_ll] at h; exact wpAny_eqBool_int h
      · rw [key_lr] at h; exact SeqAt.EqAt.int_str i t y u _ _ _ _ h
    · rcases keyIs_shape hv with ⟨j, u, rfl, rfl⟩ | ⟨y, u, rfl, rfl⟩
      · rw [key_rl] at h; exact SeqAt.EqAt.str_int x t j u _ _ _ _ h
      · rw [key_rr] at h; exact wpAny_eqBool_str h
  «strs» := fun k x t v h => by
    rcases keyIs_shape h with ⟨i, u, rfl, e⟩ | ⟨y, u, rfl, e⟩
    · exact nomatch e
    · injection e with e1 _
      subst e1
      cases v <;> rfl

end L2
namespace L2
open PySem PySem.Spec PyProof.Rows
inductive V where
  | non | bl (b : Bool) | int (i : Int) | str (x : Str) | byt (b : Array UInt8) | flt (b : UInt64) | ref (a : Addr) | ty (n : String)
  deriving DecidableEq

noncomputable def RelV : V → Value → Prop
  | .non, u => u = Value.none
  | .bl b, u => u = Value.bool b
  | .int i, u => ∃ t, u = Value.int i t
  | .str x, u => ∃ t, u = Value.str x t
  | .byt b, u => ∃ t, u = Value.bytes b t
  | .flt b, u => ∃ t, u = Value.float b t
  | .ref a, u => u = Value.ref a
  | .ty n, u => u = Value.type n

noncomputable abbrev Vals : List V → List Value → Prop := Paired RelV
theorem Vals.length {xs : List V} {us : List Value} (r : Vals xs us) : xs.length = us.length := Paired.length r
theorem Vals.get : ∀ {xs : List V} {us : List Value} {i : Nat} {x : V}, Vals xs us → xs[i]? = some x → ∃ u, us[i]? = some u ∧ RelV x u
  | _, _, _, _, .nil, e => by simp at e
  | _, _, 0, _, .cons r _, e => by simp at e; subst e; exact ⟨_, rfl, r⟩
  | _, _, i + 1, x, .cons _ t, e => by
    obtain ⟨u, h1, h2⟩ := Vals.get (i := i) (x := x) t (by simpa using e)
    exact ⟨u, by simpa using h1, h2⟩
theorem Vals.append : ∀ {xs ys : List V} {us ws : List Value}, Vals xs us → Vals ys ws → Vals (xs ++ ys) (us ++ ws)
  | _, _, _, _, .nil, s => s
  | _, _, _, _, .cons r t, s => .cons r (Vals.append t s)
theorem Vals.take : ∀ {xs : List V} {us : List Value} (n : Nat), Vals xs us → Vals (xs.take n) (us.take n)
  | _, _, 0, _ => .nil
  | _, _, _ + 1, .nil => .nil
  | _, _, n + 1, .cons r t => .cons r (Vals.take n t)
theorem Vals.drop : ∀ {xs : List V} {us : List Value} (n : Nat), Vals xs us → Vals (xs.drop n) (us.drop n)
  | _, _, 0, r => r
  | _, _, _ + 1, .nil => .nil
  | _, _, n + 1, .cons _ t => Vals.drop n t
noncomputable def RelO : Option V → Option Value → Prop
  | some v, some u => RelV v u
  | none, none => True
  | _, _ => False
noncomputable def KV {κ : Type} : List (κ × V) → List (κ × Value) → Prop := Paired fun (p : κ × V) (q : κ × Value) => p.1 = q.1 ∧ RelV p.2 q.2

noncomputable def kV : Key → V
  | .inl i => .int i
  | .inr x => .str x

inductive HO where
  /-- a list -/
  | lst (xs : List V)
  /-- a tuple (never changes) -/
  | tup (xs : List V)
  /-- a dict whose keys are ints and texts; one whose keys are tuples of ints and texts (the empty one is both) -/
  | dK (kvs : List (Key × V)) | dT (kvs : List (List Key × V))
  /-- a set of ints: its members, its size -/
  | set (S : Int → Bool) (n : Nat)
  /-- an instance of the class at C, its dict at dx, its attributes -/
  | ins (C dx : Addr) (fs : List (Str × V))
  /-- the dict of the instance at x -/
  | own (x : Addr)
  /-- the dict of an exception -/
  | xd (fs : List (Str × V))
  /-- a bound method, f of x -/
  | met (f x : Addr)
  /-- a range object lo, lo + 1, .. below hi -/
  | rng (lo hi : Int)
  /-- a thing that is known to the object (the script; a dict while a loop walks it): read, never written while it is so -/
  | frz (o : Obj) (u : HO)
  /-- a code object's table -/
  | tbl (ps : Array Value)
  /-- any other thing, by what is true of its one object (a def of one's own: SetO a S n := HO.ext fun h => ..) -/
  | ext (φ : Heap → Prop)

noncomputable abbrev Hp := Addr → Option HO
noncomputable def upd (H : Hp) (a : Addr) (o : HO) : Hp := fun b => if b = a then some o else H b
theorem upd_same {H : Hp} {a : Addr} {o : HO} : upd H a o a = some o := by unfold upd; rw [if_pos rfl]
theorem upd_ne {H : Hp} {a b : Addr} {o : HO} (h : b ≠ a) : upd H a o b = H b := by unfold upd; rw [if_neg h]
theorem upd_upd {H : Hp} {a : Addr} {o u : HO} : upd (upd H a o) a u = upd H a u := by
  funext b; unfold upd; split <;> rfl
theorem ne_of_none {H : Hp} {a b : Addr} {o : HO} (h : H a = some o) (h' : H b = none) : a ≠ b := by
  intro e; subst e; rw [h] at h'; cases h'

section
variable (P : Program) (w : World)
noncomputable def ObjOk (H : Hp) (h : Heap) (a : Addr) : HO → Prop
  | .lst xs => xs.length ≤ sizeLine ∧ ∃ (its : List Value) (n : Nat), Vals xs its ∧ h.get? a = some { cls := .type "list", data := .seq its.toArray n }
  | .tup xs => xs.length ≤ sizeLine ∧ ∃ its : List Value, Vals xs its ∧ IsTup h a its.toArray
  | .dK kvs => kvs.length ≤ sizeLine ∧ (a == sysModules) = false ∧ ∃ vs, KV kvs vs ∧ h.DictOf (mixKind P w) a vs
  | .dT kvs => kvs.length ≤ sizeLine ∧ (a == sysModules) = false ∧ ∃ xs : List (List Key × Addr × Value),
      Paired (fun (p : List Key × V) (q : List Key × Addr × Value) => p.1 = q.1 ∧ H q.2.1 = some (.tup (p.1.map kV)) ∧ RelV p.2 q.2.2) kvs xs ∧
      ∃ o es ep, h.get? a = some o ∧ o.ExactDict ∧ o.data = .dict es ep ∧ es.toList = xs.map (entryOfKey (tupleKind (mixKind P w))) ∧ (xs.map (·.1)).Nodup
  | .set S n => h.SetOf (intKind P w) a S n
  | .ins C dx fs => H dx = some (.own a) ∧ fs.length ≤ 1000 ∧ dx ≠ a ∧ h.get? a = some (PySem.W.instObj C dx) ∧
      ∃ mA, h.Ns1 dx mA ∧ (∀ f, RelO (fs.lookup f) (mA f)) ∧ PySem.Within mA (fs.map (·.1))
  | .own _ => ∃ o, h.get? a = some o
  | .xd fs => ∃ mA, h.Ns1 a mA ∧ ∀ f, RelO (fs.lookup f) (mA f)
  | .rng lo hi => ∃ t u v, h.get? a = some { cls := .type "range", data := .fields #[.int lo t, .int hi u, .int 1 v] }
  | .frz o u => h.get? a = some o ∧ ObjOk H h a u
  | .tbl ps => h.get? a = some { cls := .none, data := .fields ps }
  | .met f x => h.get? a = some (PySem.W.methodObj (.ref f) (.ref x))
  | .ext φ => φ h ∧ (∃ o, h.get? a = some o) ∧ ∀ h1 h2 : Heap, φ h1 → (∀ o, h1.get? a = some o → h2.get? a = some o) → φ h2
noncomputable def HOk (H : Hp) (h : Heap) : Prop := ∀ a o, H a = some o → ObjOk P w H h a o
end
section
variable {P : Program} {w : World} {H H' : Hp} {h h' : Heap} {a : Addr} {o : HO}
theorem ObjOk.lt (x : ObjOk P w H h a o) : a < h.objs.size := by
  cases o with
  | lst xs => obtain ⟨_, _, _, _, e⟩ := x; exact Heap.lt_size e
  | tup xs => obtain ⟨_, _, _, p⟩ := x; exact p.lt
  | dK kvs => obtain ⟨_, _, _, _, o, _, _, e, _⟩ := x; exact Heap.lt_size e
  | dT kvs => obtain ⟨_, _, _, _, o, _, _, e, _⟩ := x; exact Heap.lt_size e
  | set S n => obtain ⟨o, _, _, _, e, _⟩ := x; exact Heap.lt_size e
  | ins C dx fs => obtain ⟨_, _, _, e, _⟩ := x; exact Heap.lt_size e
  | own y => obtain ⟨_, e⟩ := x; exact Heap.lt_size e
  | xd fs => obtain ⟨_, ⟨_, _, _, e, _⟩, _⟩ := x; exact Heap.lt_size e
  | rng lo hi => obtain ⟨_, _, _, e⟩ := x; exact Heap.lt_size e
  | frz ob u => obtain ⟨e, _⟩ := x; exact Heap.lt_size e
  | tbl ps => exact Heap.lt_size (show h.get? a = some _ from x)
  | met f y => exact Heap.lt_size (show h.get? a = some _ from x)
  | ext φ => obtain ⟨_, ⟨_, e⟩, _⟩ := x; exact Heap.lt_size e
theorem Paired.mapP {α β : Type} {F G : α → β → Prop} : ∀ {l₁ : List α} {l₂ : List β}, Paired F l₁ l₂ → (∀ a b, F a b → G a b) → Paired G l₁ l₂
  | _, _, .nil, _ => .nil
  | _, _, .cons r t, f => .cons (f _ _ r) (Paired.mapP t f)
theorem ObjOk.stay (x : ObjOk P w H h a o) (k : ∀ b u, (b = a ∨ H b = some (.own a)) → h.get? b = some u → h'.get? b = some u)
    (ho : ∀ b, H b = some (.own a) → H' b = some (.own a)) (ht : ∀ b xs, H b = some (.tup xs) → H' b = some (.tup xs)) : ObjOk P w H' h' a o := by
  induction o with
  | lst xs => obtain ⟨z, its, n, r, e⟩ := x; exact ⟨z, its, n, r, k _ _ (.inl rfl) e⟩
  | tup xs => obtain ⟨z, its, r, ob, e, c⟩ := x; exact ⟨z, its, r, ob, k _ _ (.inl rfl) e, c⟩
  | dK kvs => obtain ⟨z, y, vs, r, ob, es, ep, e, c⟩ := x; exact ⟨z, y, vs, r, ob, es, ep, k _ _ (.inl rfl) e, c⟩
  | dT kvs =>
    obtain ⟨z, y, xs, r, ob, es, ep, e, c⟩ := x
    exact ⟨z, y, xs, Paired.mapP r fun p q z => ⟨z.1, ht _ _ z.2.1, z.2.2⟩, ob, es, ep, k _ _ (.inl rfl) e, c⟩
  | set S n => obtain ⟨ob, es, ep, t, e, c⟩ := x; exact ⟨ob, es, ep, t, k _ _ (.inl rfl) e, c⟩
  | ins C dx fs =>
    obtain ⟨d, z, ne, e, mA, ⟨od, es, ep, e2, c⟩, r⟩ := x
    exact ⟨ho _ d, z, ne, k _ _ (.inl rfl) e, mA, ⟨od, es, ep, k _ _ (.inr d) e2, c⟩, r⟩
  | own y => obtain ⟨ob, e⟩ := x; exact ⟨ob, k _ _ (.inl rfl) e⟩
  | xd fs => obtain ⟨mA, ⟨od, es, ep, e, c⟩, r⟩ := x; exact ⟨mA, ⟨od, es, ep, k _ _ (.inl rfl) e, c⟩, r⟩
  | rng lo hi => obtain ⟨t, u, v, e⟩ := x; exact ⟨t, u, v, k _ _ (.inl rfl) e⟩
  | frz ob u ih => obtain ⟨e, q⟩ := x; exact ⟨k _ _ (.inl rfl) e, ih q⟩
  | tbl ps =>
    have e : h.get? a = some { cls := .none, data := .fields ps } := x
    show h'.get? a = some { cls := .none, data := .fields ps }
    exact k a _ (.inl rfl) e
  | met f y =>
    have e : h.get? a = some (PySem.W.methodObj (.ref f) (.ref y)) := x
    show h'.get? a = some (PySem.W.methodObj (.ref f) (.ref y))
    exact k a _ (.inl rfl) e
  | ext φ => obtain ⟨p, ⟨o, e⟩, st⟩ := x; exact ⟨st _ _ p fun o q => k _ _ (.inl rfl) q, ⟨o, k _ _ (.inl rfl) e⟩, st⟩
theorem HOk.lt (x : HOk P w H h) (e : H a = some o) : a < h.objs.size := (x a o e).lt
theorem HOk.fresh (x : HOk P w H h) (e : h.objs.size ≤ a) : H a = none := by
  cases q : H a with
  | none => rfl
  | some u => exact absurd (Nat.lt_of_lt_of_le (x.lt q) e) (Nat.lt_irrefl _)
theorem HOk.kept (x : HOk P w H h) (k : ∀ b u, h.get? b = some u → h'.get? b = some u) : HOk P w H h' := fun a o e =>
  (x a o e).stay (fun b u _ q => k b u q) (fun _ q => q) fun _ _ q => q
theorem HOk.laid (x : HOk P w H h) (k : ∀ b u, h.get? b = some u → h'.get? b = some u) (hp : h.objs.size ≤ a) (new : ObjOk P w (upd H a o) h' a o) : HOk P w (upd H a o) h' := fun b u e => by
  have hn := x.fresh hp
  by_cases hb : b = a
  · subst hb; rw [upd_same] at e; cases e; exact new
  · rw [upd_ne hb] at e
    exact (x b u e).stay (fun c v _ q => k c v q) (fun c q => by rw [upd_ne (ne_of_none q hn)]; exact q) fun c xs q => by rw [upd_ne (ne_of_none q hn)]; exact q
end
noncomputable def Rd (H : Hp) (a : Addr) (u : HO) : Prop := H a = some u ∨ ∃ o, H a = some (.frz o u)
theorem Rd.ok {P : Program} {w : World} {H : Hp} {h : Heap} {a : Addr} {u : HO} (r : Rd H a u) (x : HOk P w H h) : ObjOk P w H h a u := by
  rcases r with r | ⟨o, r⟩
  · exact x a u r
  · obtain ⟨_, q⟩ := x a _ r
    exact q
noncomputable def Mut : Option HO → Prop
  | some (.lst _) => True
  | some (.dK _) => True
  | some (.dT _) => True
  | some (.set _ _) => True
  | some (.ins _ _ _) => True
  | some (.ext _) => True
  | _ => False
section
variable {P : Program} {w : World} {H : Hp} {h h' : Heap} {x e : Addr} {o' : HO}
theorem HOk.write (ok : HOk P w H h) (mu : Mut (H x)) (he : e = x ∨ H e = some (.own x)) (k : ∀ b u, b ≠ e → h.get? b = some u → h'.get? b = some u) (heo : ∃ u, h'.get? e = some u)
    (new : ObjOk P w (upd H x o') h' x o') : HOk P w (upd H x o') h' := fun b u q => by
  have nown : ∀ c y, H c = some (.own y) → c ≠ x := fun c y r z => by subst z; rw [r] at mu; exact mu
  have ntup : ∀ c xs, H c = some (.tup xs) → c ≠ x := fun c xs r z => by subst z; rw [r] at mu; exact mu
  by_cases hb : b = x
  · subst hb; rw [upd_same] at q; cases q; exact new
  · rw [upd_ne hb] at q
    by_cases hbe : b = e
    · have q' : H b = some (.own x) := by
        rcases he with z | z
        · exact absurd (hbe.trans z) hb
        · rw [hbe]; exact z
      rw [q] at q'; cases q'
      obtain ⟨v, hv⟩ := heo
      exact ⟨v, by rw [hbe]; exact hv⟩
    · refine (ok b u q).stay (fun c v hc r => k c v ?_ r) (fun c r => by rw [upd_ne (nown c b r)]; exact r) fun c xs r => by rw [upd_ne (ntup c xs r)]; exact r
      rcases hc with rfl | hc
      · exact hbe
      · rintro rfl
        rcases he with z | z
        · exact nown c b hc z
        · rw [hc] at z; cases z; exact hb rfl
end
structure Un (fs ex : List Addr) (H H' : Hp) (h h' : Heap) : Prop where
  keep : ∀ b o, h.get? b = some o → H b = none → b ∉ fs → b ∉ ex → h'.get? b = some o
  slot : ∀ b o, h.get? b = some o → H b = none → b ∈ fs → b ∉ ex → ∃ sl, h'.get? b = some { o with slots := sl }
  free : ∀ b o, h.get? b = some o → H b = none → b ∉ ex → H' b = none
  there : ∀ b o, h.get? b = some o → b ∉ ex → ∃ o', h'.get? b = some o'
  tups : ∀ b xs, H b = some (.tup xs) → H' b = some (.tup xs)
  frzs : ∀ b o u, H b = some (.frz o u) → H' b = some (.frz o u)
  tbls : ∀ b ps, H b = some (.tbl ps) → ∃ more, H' b = some (.tbl (ps ++ more))
section
variable {fs fs' ex ex' : List Addr} {H H1 H2 : Hp} {h h1 h2 h' : Heap} {a x e : Addr} {o : HO}
theorem Un.any (u : Un fs ex H H1 h h1) {b : Addr} {ob : Obj} (q : h.get? b = some ob) (n : H b = none) (hx : b ∉ ex) : ∃ sl, h1.get? b = some { ob with slots := sl } := by
  by_cases hb : b ∈ fs
  · exact u.slot b ob q n hb hx
  · exact ⟨ob.slots, u.keep b ob q n hb hx⟩
theorem Un.kept (k : ∀ b u, h.get? b = some u → h'.get? b = some u) : Un fs ex H H h h' :=
  ⟨fun b ob q _ _ _ => k b ob q, fun b ob q _ _ _ => ⟨ob.slots, k b ob q⟩, fun _ _ _ n _ => n, fun b ob q _ => ⟨ob, k b ob q⟩, fun _ _ q => q, fun _ _ _ q => q, fun _ ps q => ⟨#[], by rw [q]; simp⟩⟩
theorem Un.refl : Un fs ex H H h h := Un.kept fun _ _ q => q
theorem Un.laid (k : ∀ b u, h.get? b = some u → h'.get? b = some u) (hp : h.objs.size ≤ a) (hn : H a = none) : Un fs ex H (upd H a o) h h' where
  keep := fun b u q _ _ _ => k b u q
  slot := fun b u q _ _ _ => ⟨u.slots, k b u q⟩
  free := fun b u q n _ => by rw [upd_ne (Nat.ne_of_lt (Nat.lt_of_lt_of_le (Heap.lt_size q) hp))]; exact n
  there := fun b u q _ => ⟨u, k b u q⟩
  tups := fun b xs q => by rw [upd_ne (ne_of_none q hn)]; exact q
  frzs := fun b u xs q => by rw [upd_ne (ne_of_none q hn)]; exact q
  tbls := fun b ps q => ⟨#[], by rw [upd_ne (ne_of_none q hn), q]; simp⟩
theorem Un.write (mu : Mut (H x)) (he : e = x ∨ H e = some (.own x)) (k : ∀ b u, b ≠ e → h.get? b = some u → h'.get? b = some u) (heo : ∃ u, h'.get? e = some u) : Un fs ex H (upd H x o) h h' := by
  have hx : ∀ b, H b = none → b ≠ x := fun b n z => by subst z; rw [n] at mu; exact mu
  have hb : ∀ b, H b = none → b ≠ e := fun b n z => by
    subst z
    rcases he with r | r
    · exact hx b n r
    · rw [n] at r; cases r
  have hm : ∀ b u, H b = some u → ¬ Mut (some u) → b ≠ x := fun b u q nm z => by subst z; rw [q] at mu; exact nm mu
  refine ⟨fun b u q n _ _ => k b u (hb b n) q, fun b u q n _ _ => ⟨u.slots, k b u (hb b n) q⟩, fun b u q n _ => by rw [upd_ne (hx b n)]; exact n, fun b u q _ => ?_,
    fun b xs q => by rw [upd_ne (hm b _ q fun z => z)]; exact q, fun b u xs q => by rw [upd_ne (hm b _ q fun z => z)]; exact q, fun b ps q => ⟨#[], by rw [upd_ne (hm b _ q fun z => z), q]; simp⟩⟩
  by_cases hbe : b = e
  · subst hbe; exact heo
  · exact ⟨u, k b u hbe q⟩
end
noncomputable def trk (h : Heap) (H : Hp) : List Addr := (List.range h.objs.size).filter fun a => (H a).isSome
noncomputable def hidT (h : Heap) (H : Hp) : Heap := PySem.W.hideAll h (trk h H)
theorem hidT_size (h : Heap) (H : Hp) : (hidT h H).objs.size = h.objs.size := PySem.W.hideAll_size _ _
theorem hidT_get {h : Heap} {H : Hp} {b : Addr} {o : Obj} (e : h.get? b = some o) (n : H b = none) : (hidT h H).get? b = some o :=
  PySem.W.hideAll_get _ e fun hm => by
    have q : (H b).isSome = true := (List.mem_filter.mp hm).2
    rw [n] at q; simp at q
theorem of_hidT {h : Heap} {H : Hp} {b : Addr} {o : Obj} (e : (hidT h H).get? b = some o) : h.get? b = some o ∧ H b = none := by
  have e' : h.get? b = some o := PySem.W.of_hideAll (trk h H) e
  refine ⟨e', ?_⟩
  cases q : H b with
  | none => rfl
  | some x =>
    have hm : b ∈ trk h H := List.mem_filter.mpr ⟨List.mem_range.mpr (Heap.lt_size e'), by simp [q]⟩
    have z : (hidT h H).get? b = none := PySem.W.hideAll_none (trk h H) hm
    rw [z] at e; cases e

end L2
namespace L2
open PySem PySem.Spec PyProof.Rows
structure Mod (K : PySem.W.Frag) (mg : Str → Option Value) (base : Heap) : Prop where
  kin : K.In base
  glob : base.Ns mainGlobals mg
  blt : ∃ mb, base.Ns builtinsNs mb ∧ ∀ x : Str, x ≠ "__name__" → mb x = bootBuiltins x
  nolimit : base.NoLimit

structure Cx where
  prog : Program
  w : World
  K : PySem.W.Frag
  mg : Str → Option Value
  base : Heap
  A : Around
  N : List Str
  s_0 : Shared
  H_0 : Hp
  env : Env
  outer : List Env
  stack : List Env
  ex : List Addr
  fn : Str → Bool
  calm : Bool
  pn : List (Addr × Obj)
  xe : Value → Shared → Prop
noncomputable def frs (l : List Env) : List Addr := l.filterMap (·.frame)
noncomputable abbrev Cx.fs (X : Cx) : List Addr := frs X.outer

noncomputable def Vis (sc : Scope) (x : Str) : Prop := sc.names.lookup x = some .local ∨ sc.names.lookup x = some .cell ∨ sc.names.lookup x = some .free
noncomputable def Loc (sc : Scope) (x : Str) : Prop := sc.names.lookup x = some .local ∨ sc.names.lookup x = some .cell
noncomputable def Look (env : Env) (h : Heap) (m : Str → Option Value) (x : Str) (u : Value) : Prop :=
  (env.kindOf x = some .local ∧ m x = some u) ∨ ((env.kindOf x = some .cell ∨ env.kindOf x = some .free) ∧ ∃ c, env.cells.lookup x = some c ∧ h.IsCell c (some u))

structure Cx.Ok (X : Cx) : Prop where
  mod : Mod X.K X.mg X.base
  kind : X.env.scope.kind = .function
  glob : X.env.globals = mainGlobals
  blt : X.env.builtins = builtinsNs
  above : X.s_0.heap.objs.size ≤ X.env.locals
  inj : ∀ x y c, X.env.cells.lookup x = some c → X.env.cells.lookup y = some c → x = y
  has : ∀ x, (X.env.kindOf x = some .cell ∨ X.env.kindOf x = some .free) → ∃ c, X.env.cells.lookup x = some c
  cab : ∀ x c, X.fn x = true → X.env.cells.lookup x = some c → X.s_0.heap.objs.size ≤ c
  hd : X.calm = true → X.A.handled = none
  frames : X.A.frames = some X.stack
  stk : X.stack = X.outer ∨ (X.stack = X.env :: X.outer ∧ X.env.frame = some X.env.locals)
  exf : ∀ b ∈ X.ex, b ≠ X.env.locals ∧ ∀ x c, X.env.cells.lookup x = some c → c ≠ b
  bs : ∀ b o, X.base.get? b = some o → X.s_0.heap.get? b = some o ∧ X.H_0 b = none
  bsz : X.base.objs.size ≤ X.s_0.heap.objs.size
  noex : ∀ b o, X.base.get? b = some o → b ∉ X.ex
  exfs : ∀ b ∈ X.ex, b ∉ X.fs
  funs : X.s_0.heap.FunFrames X.base X.outer
  frf : ∀ b ∈ X.fs, X.H_0 b = none

structure Inv (X : Cx) (pins : List (Addr × Obj)) (σ : List (Option V)) (H : Hp) (s : Shared) : Prop where
  ok : X.Ok
  os : s.os = X.s_0.os
  bare : AllBare s.gens
  base : Un X.fs X.ex X.H_0 H X.s_0.heap s.heap
  loc : ∃ m, s.heap.Ns X.env.locals m ∧ ∀ (i : Nat) (x : Str) (v : V), X.N[i]? = some x → σ[i]? = some (some v) → Vis X.env.scope x → ∃ u, RelV v u ∧ Look X.env s.heap m x u
  cell : ∀ x c, X.env.cells.lookup x = some c → ∃ v, s.heap.IsCell c v
  free : H X.env.locals = none
  freeC : ∀ x c, X.env.cells.lookup x = some c → H c = none
  pin : ∀ p ∈ X.pn ++ pins, s.heap.get? p.1 = some p.2 ∧ H p.1 = none ∧ p.1 ≠ X.env.locals ∧ p.1 ∉ X.fs ∧ ∀ v, p.2.data ≠ .cell v
  hok : HOk X.prog X.w H s.heap
  len : σ.length = X.N.length

section
variable {X : Cx} {pins : List (Addr × Obj)} {σ : List (Option V)} {H H' : Hp} {s : Shared} {h' : Heap}
theorem Cx.Ok.nofr (ok : X.Ok) {b : Addr} {o : Obj} (e : X.base.get? b = some o) : b ∉ X.fs := fun hb => by
  have := (ok.funs.mem hb).1
  rw [e] at this; cases this
theorem Inv.bs (I : Inv X pins σ H s) : ∀ b o, X.base.get? b = some o → s.heap.get? b = some o ∧ H b = none := fun b o e =>
  ⟨I.base.keep b o (I.ok.bs b o e).1 (I.ok.bs b o e).2 (I.ok.nofr e) (I.ok.noex b o e), I.base.free b o (I.ok.bs b o e).1 (I.ok.bs b o e).2 (I.ok.noex b o e)⟩
theorem Inv.bk (I : Inv X pins σ H s) : ∀ b o, X.base.get? b = some o → s.heap.get? b = some o := fun b o e => (I.bs b o e).1
theorem Inv.mod (I : Inv X pins σ H s) : Mod X.K X.mg X.base := I.ok.mod
theorem Inv.kIn (I : Inv X pins σ H s) : X.K.In s.heap := I.ok.mod.kin.keeps I.bk
theorem Inv.lt (I : Inv X pins σ H s) : X.env.locals < s.heap.objs.size := let ⟨_, hn, _⟩ := I.loc; hn.lt
theorem Inv.sz (I : Inv X pins σ H s) : X.s_0.heap.objs.size ≤ s.heap.objs.size := Nat.le_trans I.ok.above (Nat.le_of_lt I.lt)
theorem Inv.nofs (I : Inv X pins σ H s) {a : Addr} (h : s.heap.objs.size ≤ a) : a ∉ X.fs := fun hb => by
  obtain ⟨_, o, ho, _⟩ := I.ok.funs.mem hb
  exact absurd (Nat.lt_of_lt_of_le (Heap.lt_size ho) (Nat.le_trans I.sz h)) (Nat.lt_irrefl _)
theorem Inv.cne (I : Inv X pins σ H s) : ∀ x c, X.env.cells.lookup x = some c → c ≠ X.env.locals := fun x c e z => by
  obtain ⟨v, o, ho, hd⟩ := I.cell x c e
  obtain ⟨m, ⟨o', es, ep, ho', hd', _⟩, _⟩ := I.loc
  rw [z, ho'] at ho; cases ho; rw [hd'] at hd; cases hd
theorem Inv.funs (I : Inv X pins σ H s) : s.heap.FunFrames X.base X.outer := by
  have all : ∀ (l : List Env), (∀ b ∈ frs l, b ∈ X.fs) → X.s_0.heap.FunFrames X.base l → s.heap.FunFrames X.base l := by
    intro l
    induction l with
    | nil => intro _ _; trivial
    | cons env r ih =>
      intro hs hl
      obtain ⟨hk, ⟨L, o, hf, hn, ho, hd⟩, hr⟩ := hl
      have hL : L ∈ X.fs := hs L (by unfold frs; rw [List.filterMap_cons, hf]; exact List.mem_cons_self)
      obtain ⟨sl, e⟩ := I.base.slot L o ho (I.ok.frf L hL) hL fun z => I.ok.exfs L z hL
      exact ⟨hk, ⟨L, _, hf, hn, e, hd⟩, ih (fun b hb => hs b (by unfold frs; rw [List.filterMap_cons, hf]; exact List.mem_cons_of_mem _ hb)) hr⟩
  exact all X.outer (fun _ hb => hb) I.ok.funs

theorem Inv.stack (I : Inv X pins σ H s) : s.heap.FunFrames X.base X.stack := by
  rcases I.ok.stk with e | ⟨e, hf⟩
  · rw [e]; exact I.funs
  · rw [e]
    obtain ⟨m, hn, _⟩ := I.loc
    refine .cons (by rw [I.ok.kind]; decide) hf hn ?_ I.funs
    exact Heap.get?_none_of_le (Nat.le_trans I.ok.bsz I.ok.above)
theorem Inv.stkSub (I : Inv X pins σ H s) : ∀ b ∈ frs X.stack, b ∈ X.env.locals :: X.fs := fun b hb => by
  rcases I.ok.stk with e | ⟨e, hf⟩
  · rw [e] at hb; exact List.mem_cons_of_mem _ hb
  · rw [e] at hb
    unfold frs at hb
    rw [List.filterMap_cons, hf] at hb
    exact hb
theorem Inv.stkFree (I : Inv X pins σ H s) : ∀ b ∈ frs X.stack, H b = none := fun b hb => by
  rcases List.mem_cons.mp (I.stkSub b hb) with e | hb
  · rw [e]; exact I.free
  · obtain ⟨_, o, ho, _⟩ := I.ok.funs.mem hb
    exact I.base.free b o ho (I.ok.frf b hb) fun z => I.ok.exfs b z hb

theorem Inv.step {g' : Array GenState} {t' : Nat} {d' : Drawn} {ch : List Addr} (I : Inv X pins σ H s)
    (hch : ∀ b ∈ ch, (b ∈ X.ex ∨ X.s_0.heap.objs.size ≤ b) ∧ b ≠ X.env.locals ∧ (∀ x c, X.env.cells.lookup x = some c → c ≠ b) ∧ ∀ p ∈ X.pn ++ pins, p.1 ≠ b)
    (keep : ∀ b o, b ≠ X.env.locals → b ∉ X.fs → b ∉ ch → s.heap.get? b = some o → H b = none → h'.get? b = some o)
    (slot : ∀ b o, b ≠ X.env.locals → b ∈ X.fs → b ∉ ch → s.heap.get? b = some o → H b = none → ∃ sl, h'.get? b = some { o with slots := sl }) (free : ∀ b o, b ∉ ch → s.heap.get? b = some o → H b = none → H' b = none)
    (there : ∀ b o, b ∉ ch → s.heap.get? b = some o → ∃ o', h'.get? b = some o')
    (tups : ∀ b xs, H b = some (.tup xs) → H' b = some (.tup xs)) (frzs : ∀ b o u, H b = some (.frz o u) → H' b = some (.frz o u)) (tbls : ∀ b ps, H b = some (.tbl ps) → ∃ more, H' b = some (.tbl (ps ++ more)))
    (ns : ∀ m, s.heap.Ns X.env.locals m → h'.Ns X.env.locals m) (hok : HOk X.prog X.w H' h') (hg : AllBare g') :
    Inv X pins σ H' { s with heap := h', gens := g', drawn := d', toks := t' } := by
  have neL : ∀ b o, X.s_0.heap.get? b = some o → b ≠ X.env.locals := fun b o e => Nat.ne_of_lt (Nat.lt_of_lt_of_le (Heap.lt_size e) I.ok.above)
  have neC : ∀ b o, X.s_0.heap.get? b = some o → b ∉ X.ex → b ∉ ch := fun b o e hx hb => by
    rcases (hch b hb).1 with z | z
    · exact hx z
    · exact absurd (Nat.lt_of_lt_of_le (Heap.lt_size e) z) (Nat.lt_irrefl _)
  have cellK : ∀ x c, X.env.cells.lookup x = some c → ∀ v, s.heap.IsCell c v → h'.IsCell c v := fun x c e v ⟨o, ho, hd⟩ => by
    have nch : c ∉ ch := fun z => (hch c z).2.2.1 x c e rfl
    by_cases hc : c ∈ X.fs
    · obtain ⟨sl, q⟩ := slot c o (I.cne x c e) hc nch ho (I.freeC x c e)
      exact ⟨_, q, hd⟩
    · exact ⟨o, keep c o (I.cne x c e) hc nch ho (I.freeC x c e), hd⟩
  refine ⟨I.ok, I.os, hg, ⟨fun b o e n hb hx => ?_, fun b o e n hb hx => ?_, fun b o e n hx => ?_, fun b o e hx => ?_, fun b xs e => tups b xs (I.base.tups b xs e), fun b o xs e => frzs b o xs (I.base.frzs b o xs e), fun b ps e => ?_⟩, ?_, fun x c e => ?_, ?_, fun x c e => ?_, fun p hp => ?_, hok, I.len⟩
  · exact keep b o (neL b o e) hb (neC b o e hx) (I.base.keep b o e n hb hx) (I.base.free b o e n hx)
  · obtain ⟨sl, e1⟩ := I.base.slot b o e n hb hx
    obtain ⟨sl', e2⟩ := slot b _ (neL b o e) hb (neC b o e hx) e1 (I.base.free b o e n hx)
    exact ⟨sl', e2⟩
  · obtain ⟨o', e1⟩ := I.base.there b o e hx
    exact free b o' (neC b o e hx) e1 (I.base.free b o e n hx)
  · obtain ⟨o', e1⟩ := I.base.there b o e hx
    exact there b o' (neC b o e hx) e1
  · obtain ⟨m1, e1⟩ := I.base.tbls b ps e
    obtain ⟨m2, e2⟩ := tbls b _ e1
    exact ⟨m1 ++ m2, by rw [e2, Array.append_assoc]⟩
  · obtain ⟨m, hn, hl⟩ := I.loc
    refine ⟨m, ns m hn, fun i x v e1 e2 e3 => ?_⟩
    obtain ⟨u, r, l⟩ := hl i x v e1 e2 e3
    refine ⟨u, r, ?_⟩
    rcases l with l | ⟨k, c, e, z⟩
    · exact .inl l
    · exact .inr ⟨k, c, e, cellK x c e _ z⟩
  · obtain ⟨v, z⟩ := I.cell x c e
    exact ⟨v, cellK x c e v z⟩
  · obtain ⟨m, ⟨o, _, _, ho, _⟩, _⟩ := I.loc
    exact free _ o (fun z => (hch _ z).2.1 rfl) ho I.free
  · obtain ⟨v, o, ho, hd⟩ := I.cell x c e
    exact free c o (fun z => (hch c z).2.2.1 x c e rfl) ho (I.freeC x c e)
  · obtain ⟨e, n, ne, nf, d⟩ := I.pin p hp
    have nch : p.1 ∉ ch := fun z => (hch p.1 z).2.2.2 p hp rfl
    exact ⟨keep p.1 p.2 ne nf nch e n, free p.1 p.2 nch e n, ne, nf, d⟩
theorem Inv.un {t' : Nat} (I : Inv X pins σ H s) (u : Un X.fs [] H H' s.heap h') (hok : HOk X.prog X.w H' h') : Inv X pins σ H' { s with heap := h', toks := t' } := by
  obtain ⟨m, ⟨o, es, ep, ho, r⟩, _⟩ := id I.loc
  obtain ⟨sl, hL⟩ := u.any ho I.free (by simp)
  exact I.step (g' := s.gens) (d' := s.drawn) (ch := []) (fun _ z => nomatch z) (fun b o _ hb _ e n => u.keep b o e n hb (by simp)) (fun b o _ hb _ e n => u.slot b o e n hb (by simp)) (fun b o _ e n => u.free b o e n (by simp)) (fun b o _ e => u.there b o e (by simp)) u.tups u.frzs u.tbls (fun m' hm => by
    obtain ⟨o', es', ep', ho', r'⟩ := hm
    rw [ho] at ho'; cases ho'
    exact ⟨_, es', ep', hL, r'⟩) hok I.bare
theorem Inv.call {g' : Array GenState} {t' : Nat} {d' : Drawn} {ch : List Addr} (I : Inv X pins σ H s) (u : Un (frs X.stack) ch H H' s.heap h') (hok : HOk X.prog X.w H' h') (hg : AllBare g')
    (hch : ∀ b ∈ ch, (b ∈ X.ex ∨ X.s_0.heap.objs.size ≤ b) ∧ b ≠ X.env.locals ∧ (∀ x c, X.env.cells.lookup x = some c → c ≠ b) ∧ ∀ p ∈ X.pn ++ pins, p.1 ≠ b) :
    Inv X pins σ H' { s with heap := h', gens := g', drawn := d', toks := t' } := by
  obtain ⟨m, ⟨o, es, ep, ho, r⟩, _⟩ := id I.loc
  obtain ⟨sl, hL⟩ := u.any ho I.free fun z => (hch _ z).2.1 rfl
  exact I.step (ch := ch) hch (fun b o hL hb hc e n => u.keep b o e n (fun z => (List.mem_cons.mp (I.stkSub b z)).elim hL hb) hc) (fun b o _ _ hc e n => u.any e n hc) (fun b o hc e n => u.free b o e n hc) (fun b o hc e => u.there b o e hc) u.tups u.frzs u.tbls (fun m' hm => by
    obtain ⟨o', es', ep', ho', r'⟩ := hm
    rw [ho] at ho'; cases ho'
    exact ⟨_, es', ep', hL, r'⟩) hok hg
theorem Inv.turned {t' : Nat} {it : Addr} (I : Inv X pins σ H s) (k : ∀ b o, b ≠ it → s.heap.get? b = some o → h'.get? b = some o) (hn : H it = none) (hL : it ≠ X.env.locals)
    (h1 : it ∈ X.ex ∨ X.s_0.heap.objs.size ≤ it) (h2 : ∀ x c, X.env.cells.lookup x = some c → c ≠ it) (h3 : ∀ p ∈ X.pn ++ pins, p.1 ≠ it) : Inv X pins σ H { s with heap := h', toks := t' } := by
  have nit : ∀ b u, H b = some u → b ≠ it := fun b u e z => by rw [z, hn] at e; cases e
  refine I.step (g' := s.gens) (d' := s.drawn) (ch := [it]) (fun b hb => ?_) (fun b o _ _ hc e _ => k b o (fun z => hc (by simp [z])) e) (fun b o _ _ hc e _ => ⟨o.slots, k b o (fun z => hc (by simp [z])) e⟩) (fun _ _ _ _ n => n)
    (fun b o hc e => ⟨o, k b o (fun z => hc (by simp [z])) e⟩) (fun _ _ e => e) (fun _ _ _ e => e) (fun b ps e => ⟨#[], by rw [e]; simp⟩) (fun m hm => ?_) (fun b u e => ?_) I.bare
  · have e : b = it := by simpa using hb
    subst e
    exact ⟨h1, hL, h2, h3⟩
  · obtain ⟨o, es, ep, ho, r⟩ := hm
    exact ⟨o, es, ep, k _ o (Ne.symm hL) ho, r⟩
  · refine (I.hok b u e).stay (fun c v hc q => k c v ?_ q) (fun _ q => q) fun _ _ q => q
    rcases hc with z | z
    · rw [z]; exact nit b u e
    · exact nit c _ z
theorem Inv.tok (I : Inv X pins σ H s) (t : Nat) : Inv X pins σ H { s with toks := t } := I.un (h' := s.heap) (t' := t) Un.refl I.hok
theorem Inv.kept {t' : Nat} (I : Inv X pins σ H s) (k : ∀ b u, s.heap.get? b = some u → h'.get? b = some u) : Inv X pins σ H { s with heap := h', toks := t' } := I.un (Un.kept k) (I.hok.kept k)
theorem Inv.laid {a : Addr} {o : HO} {t' : Nat} (I : Inv X pins σ H s) (k : ∀ b u, s.heap.get? b = some u → h'.get? b = some u) (hp : s.heap.objs.size ≤ a) (new : ObjOk X.prog X.w (upd H a o) h' a o) :
    Inv X pins σ (upd H a o) { s with heap := h', toks := t' } := I.un (Un.laid k hp (I.hok.fresh hp)) (I.hok.laid k hp new)
theorem Inv.write {x e : Addr} {o : HO} {t' : Nat} (I : Inv X pins σ H s) (mu : Mut (H x)) (he : e = x ∨ H e = some (.own x)) (k : ∀ b u, b ≠ e → s.heap.get? b = some u → h'.get? b = some u) (heo : ∃ u, h'.get? e = some u)
    (new : ObjOk X.prog X.w (upd H x o) h' x o) : Inv X pins σ (upd H x o) { s with heap := h', toks := t' } := I.un (Un.write mu he k heo) (I.hok.write mu he k heo new)
theorem Inv.pins_of {pins' : List (Addr × Obj)} (I : Inv X pins σ H s) (h : ∀ p ∈ pins', s.heap.get? p.1 = some p.2 ∧ H p.1 = none ∧ p.1 ≠ X.env.locals ∧ p.1 ∉ X.fs ∧ ∀ v, p.2.data ≠ .cell v) : Inv X pins' σ H s :=
  ⟨I.ok, I.os, I.bare, I.base, I.loc, I.cell, I.free, I.freeC, fun p hp => (List.mem_append.mp hp).elim (fun z => I.pin p (List.mem_append_left _ z)) (h p), I.hok, I.len⟩

theorem nodup_ix {N : List Str} (hN : N.Nodup) {i j : Nat} {x : Str} (a : N[i]? = some x) (b : N[j]? = some x) : i = j := by
  obtain ⟨h1, e1⟩ := List.getElem?_eq_some_iff.mp a
  obtain ⟨h2, e2⟩ := List.getElem?_eq_some_iff.mp b
  exact (List.getElem_inj hN).mp (e1.trans e2.symm)

theorem store_ok2 {M : Model} {A : Around} {E : Value → Shared → Prop} {i : Nat} {x : Str} {v : V} {u : Value} {Q : Unit → Shared → Prop} (I : Inv X pins σ H s) (hN : X.N.Nodup) (hi : X.N[i]? = some x) (hx : Loc X.env.scope x) (r : RelV v u)
    (h : ∀ s', Inv X pins (σ.set i (some v)) H s' → (∃ a, Heap.SameBut a s.heap s'.heap ∧ (a = X.env.locals ∨ X.env.cells.lookup x = some a)) → Q () s') (hf : X.fn x = true ∨ X.env.scope.names.lookup x = some .local := by first | exact .inl rfl | exact .inr rfl | assumption) : wpAny M A (storeName X.env x u) Q E s := by
  obtain ⟨m, hn, hl⟩ := id I.loc
  have hcls : (X.env.scope.kind == .class || (X.env.scope.kind == .module && X.env.locals != X.env.globals)) = false := by rw [I.ok.kind]; rfl
  have hiσ : i < σ.length := by rw [I.len]; exact (List.getElem?_eq_some_iff.mp hi).1
  have cne := I.cne
  have tracked : ∀ {a : Addr} {h' : Heap}, (∃ o, s.heap.get? a = some o ∧ H a = none) → Heap.SameBut a s.heap h' → HOk X.prog X.w H h' := fun {a h'} ha hs b ob e => by
    obtain ⟨_, _, hfree⟩ := ha
    refine (I.hok b ob e).stay (fun c w' hc q => (hs.2 c ?_).trans q) (fun _ q => q) fun _ _ q => q
    rintro rfl
    rcases hc with rfl | hc
    · rw [hfree] at e; cases e
    · rw [hfree] at hc; cases hc
  rcases hx with hk | hk
  · refine wpAny_storeName_local hk hn (fun h' hn' hs => ?_) hcls
    obtain ⟨oL, _, _, hoL, _⟩ := id hn
    refine h _ ⟨I.ok, I.os, I.bare, ⟨fun b o e n hb hx => ?_, fun b o e n hb hx => ?_, I.base.free, fun b o e hx => ?_, I.base.tups, I.base.frzs, I.base.tbls⟩, ⟨_, hn', fun j y v' e1 e2 e3 => ?_⟩, fun y c e => ?_, I.free, I.freeC, fun p hp => ?_, tracked ⟨oL, hoL, I.free⟩ hs, by simpa using I.len⟩ ⟨_, hs, .inl rfl⟩
    · exact (hs.2 b (Nat.ne_of_lt (Nat.lt_of_lt_of_le (Heap.lt_size e) I.ok.above))).trans (I.base.keep b o e n hb hx)
    · obtain ⟨sl, e1⟩ := I.base.slot b o e n hb hx
      exact ⟨sl, (hs.2 b (Nat.ne_of_lt (Nat.lt_of_lt_of_le (Heap.lt_size e) I.ok.above))).trans e1⟩
    · obtain ⟨o', e1⟩ := I.base.there b o e hx
      exact ⟨o', (hs.2 b (Nat.ne_of_lt (Nat.lt_of_lt_of_le (Heap.lt_size e) I.ok.above))).trans e1⟩
    · by_cases hj : j = i
      · subst hj
        rw [hi] at e1; cases e1
        rw [List.getElem?_set_self hiσ] at e2
        cases e2
        exact ⟨u, r, .inl ⟨hk, by simp⟩⟩
      · rw [List.getElem?_set_ne (Ne.symm hj)] at e2
        obtain ⟨u', r', q⟩ := hl j y v' e1 e2 e3
        refine ⟨u', r', ?_⟩
        rcases q with ⟨k, e⟩ | ⟨k, c, e, z⟩
        · refine .inl ⟨k, ?_⟩
          have : y ≠ x := fun e => hj (nodup_ix hN e1 (e ▸ hi))
          simp [this, e]
        · exact .inr ⟨k, c, e, z.sameBut hs (cne y c e)⟩
    · obtain ⟨w', z⟩ := I.cell y c e
      exact ⟨w', z.sameBut hs (cne y c e)⟩
    · obtain ⟨e, n, ne, nf, d⟩ := I.pin p hp
      exact ⟨(hs.2 p.1 ne).trans e, n, ne, nf, d⟩
  · have hfn : X.fn x = true := by
      rcases hf with z | z
      · exact z
      · rw [z] at hk; cases hk
    obtain ⟨c, hc⟩ := I.ok.has x (.inl hk)
    obtain ⟨w', z⟩ := I.cell x c hc
    refine wpAny_storeName_cell I.ok.kind hk hc z (fun h' hc' hs => ?_)
    obtain ⟨oc, hoc, hocd⟩ := id z
    refine h { s with heap := h' } ⟨I.ok, I.os, I.bare, ⟨fun b o e n hb hx => ?_, fun b o e n hb hx => ?_, I.base.free, fun b o e hx => ?_, I.base.tups, I.base.frzs, I.base.tbls⟩, ⟨m, hn.sameBut hs (Ne.symm (cne x c hc)), fun j y v' e1 e2 e3 => ?_⟩, fun y c' e => ?_, I.free, I.freeC, fun p hp => ?_, tracked ⟨oc, hoc, I.freeC x c hc⟩ hs, by simpa using I.len⟩ ⟨c, hs, .inr hc⟩
    · exact (hs.2 b (Nat.ne_of_lt (Nat.lt_of_lt_of_le (Heap.lt_size e) (I.ok.cab x c hfn hc)))).trans (I.base.keep b o e n hb hx)
    · obtain ⟨sl, e1⟩ := I.base.slot b o e n hb hx
      exact ⟨sl, (hs.2 b (Nat.ne_of_lt (Nat.lt_of_lt_of_le (Heap.lt_size e) (I.ok.cab x c hfn hc)))).trans e1⟩
    · obtain ⟨o', e1⟩ := I.base.there b o e hx
      exact ⟨o', (hs.2 b (Nat.ne_of_lt (Nat.lt_of_lt_of_le (Heap.lt_size e) (I.ok.cab x c hfn hc)))).trans e1⟩
    · by_cases hj : j = i
      · subst hj
        rw [hi] at e1; cases e1
        rw [List.getElem?_set_self hiσ] at e2
        cases e2
        exact ⟨u, r, .inr ⟨.inl hk, c, hc, hc'⟩⟩
      · rw [List.getElem?_set_ne (Ne.symm hj)] at e2
        obtain ⟨u', r', q⟩ := hl j y v' e1 e2 e3
        refine ⟨u', r', ?_⟩
        rcases q with q | ⟨k, c', e, z'⟩
        · exact .inl q
        · refine .inr ⟨k, c', e, z'.sameBut hs ?_⟩
          rintro rfl
          exact hj (nodup_ix hN e1 (I.ok.inj _ _ _ e hc ▸ hi))
    · by_cases hcc : c' = c
      · subst hcc; exact ⟨_, hc'⟩
      · obtain ⟨w2, z2⟩ := I.cell y c' e
        exact ⟨w2, z2.sameBut hs hcc⟩
    · obtain ⟨e, n, ne, nf, d⟩ := I.pin p hp
      refine ⟨(hs.2 p.1 ?_).trans e, n, ne, nf, d⟩
      intro q
      rw [q, hoc] at e
      have q' : oc = p.2 := Option.some.inj e
      exact d w' (by rw [← q']; exact hocd)
theorem store_ok {M : Model} {A : Around} {E : Value → Shared → Prop} {i : Nat} {x : Str} {v : V} {u : Value} {Q : Unit → Shared → Prop} (I : Inv X pins σ H s) (hN : X.N.Nodup) (hi : X.N[i]? = some x) (hx : Loc X.env.scope x) (r : RelV v u)
    (h : ∀ s', Inv X pins (σ.set i (some v)) H s' → Q () s') (hf : X.fn x = true ∨ X.env.scope.names.lookup x = some .local := by first | exact .inl rfl | exact .inr rfl | assumption) : wpAny M A (storeName X.env x u) Q E s :=
  store_ok2 I hN hi hx r (fun s' I' _ => h s' I') hf
theorem Inv.call' {s' : Shared} {ch : List Addr} (I : Inv X pins σ H s) (ho : s'.os = s.os) (u : Un (frs X.stack) ch H H' s.heap s'.heap) (hok : HOk X.prog X.w H' s'.heap) (hg : AllBare s'.gens)
    (hch : ∀ b ∈ ch, (b ∈ X.ex ∨ X.s_0.heap.objs.size ≤ b) ∧ b ≠ X.env.locals ∧ (∀ x c, X.env.cells.lookup x = some c → c ≠ b) ∧ ∀ p ∈ X.pn ++ pins, p.1 ≠ b) : Inv X pins σ H' s' := by
  obtain ⟨h', g', d', t', o'⟩ := s'
  have e : o' = s.os := ho
  subst e
  exact I.call (g' := g') (t' := t') (d' := d') u hok hg hch
end
noncomputable abbrev XK := Value → Option Addr → Hp → Prop
noncomputable abbrev St := List (Option V)
noncomputable abbrev VK := V → Hp → Prop
noncomputable abbrev TE := St → Hp → VK → Prop
noncomputable abbrev TT := St → Hp → (Bool → Hp → Prop) → Prop
noncomputable abbrev TA := St → Hp → (List V → Hp → Prop) → Prop
structure Ends where
  nx : St → Hp → Prop
  rt : VK
  bk : St → Hp → Prop := fun _ _ => False
  ct : St → Hp → Prop := fun _ _ => False
noncomputable abbrev TS := Ends → St → Hp → Prop

noncomputable def EP (X : Cx) (pins : List (Addr × Obj)) (σ : St) (Q : VK) (u : Value) (s' : Shared) : Prop := ∃ v H', Inv X pins σ H' s' ∧ RelV v u ∧ Q v H'
noncomputable def TP (X : Cx) (pins : List (Addr × Obj)) (σ : St) (Q : Bool → Hp → Prop) (b : Bool) (s' : Shared) : Prop := ∃ H', Inv X pins σ H' s' ∧ Q b H'
noncomputable def AP (X : Cx) (pins : List (Addr × Obj)) (σ : St) (Q : List V → Hp → Prop) (us : List Value) (s' : Shared) : Prop := ∃ vs H', Inv X pins σ H' s' ∧ Vals vs us ∧ Q vs H'
noncomputable def SP (X : Cx) (pins : List (Addr × Obj)) (D : Ends) (f : Flow) (s' : Shared) : Prop :=
  match f with
  | .next => ∃ σ' H', Inv X pins σ' H' s' ∧ D.nx σ' H'
  | .brk => ∃ σ' H', Inv X pins σ' H' s' ∧ D.bk σ' H'
  | .cont => ∃ σ' H', Inv X pins σ' H' s' ∧ D.ct σ' H'
  | .ret u => ∃ v σ' H', Inv X pins σ' H' s' ∧ RelV v u ∧ D.rt v H'

noncomputable def PE (X : Cx) (e : Expr) (t : TE) : Prop :=
  ∀ (pins : List (Addr × Obj)) (s : Shared) (σ : St) (H : Hp) (Q : VK), Inv X pins σ H s → t σ H Q → wpAny (model X.prog X.w) X.A (eval e X.env) (EP X pins σ Q) X.xe s
noncomputable def PT (X : Cx) (e : Expr) (t : TT) : Prop :=
  ∀ (pins : List (Addr × Obj)) (s : Shared) (σ : St) (H : Hp) (Q : Bool → Hp → Prop), Inv X pins σ H s → t σ H Q → wpAny (model X.prog X.w) X.A (isTrue e X.env (eval e X.env)) (TP X pins σ Q) X.xe s
noncomputable def PW (X : Cx) (e : Expr) (t : TT) : Prop :=
  ∀ (whole : Sem Value) (pins : List (Addr × Obj)) (s : Shared) (σ : St) (H : Hp) (Q : Bool → Hp → Prop), Inv X pins σ H s → t σ H Q → wpAny (model X.prog X.w) X.A (isTrue e X.env whole) (TP X pins σ Q) X.xe s
theorem PW.pt {X : Cx} {e : Expr} {t : TT} (h : PW X e t) : PT X e t := h _
noncomputable def PA (X : Cx) (es : List Expr) (t : TA) : Prop :=
  ∀ (pos : Pos) (pins : List (Addr × Obj)) (s : Shared) (σ : St) (H : Hp) (Q : List V → Hp → Prop), Inv X pins σ H s → t σ H Q → wpAny (model X.prog X.w) X.A (spliced (backTo pos (starEach es X.env))) (AP X pins σ Q) X.xe s
noncomputable def PS (X : Cx) (st : Stmt) (t : TS) : Prop :=
  ∀ (pins : List (Addr × Obj)) (s : Shared) (σ : St) (H : Hp) (D : Ends), Inv X pins σ H s → t D σ H → wpAny (model X.prog X.w) X.A (exec st X.env) (SP X pins D) X.xe s
noncomputable def PSs (X : Cx) (st : List Stmt) (t : TS) : Prop :=
  ∀ (pins : List (Addr × Obj)) (s : Shared) (σ : St) (H : Hp) (D : Ends), Inv X pins σ H s → t D σ H → wpAny (model X.prog X.w) X.A (execs st X.env) (SP X pins D) X.xe s
theorem thn {α : Type} {t : Sem α} {Q Q' : α → Shared → Prop} {M : Model} {A : Around} {E : Value → Shared → Prop} {s : Shared} (h : wpAny M A t Q E s) (hQ : ∀ a s, Q a s → Q' a s) : wpAny M A t Q' E s := wpAny_mono h hQ fun _ _ x => x
end L2
namespace L2
open PySem PySem.Spec PyProof.Rows
section
variable {X : Cx}
noncomputable def tVar (i : Nat) : TE := fun σ H Q => ∃ v, σ[i]? = some (some v) ∧ Q v H
noncomputable def tC (v : V) : TE := fun _ H Q => Q v H
theorem pe_var {i : Nat} {x : Str} {pos : Pos} (hN : X.N[i]? = some x) (hv : Vis X.env.scope x) (hd : (x == ("__debug__" : Str)) = false := by decide) (hcd : (x == ("__classdict__" : Str)) = false := by decide) : PE X (.Name x pos) (tVar i) := by
  intro pins s σ H Q I h
  obtain ⟨v, e, h⟩ := h
  obtain ⟨m, hn, hl⟩ := I.loc
  obtain ⟨u, r, l⟩ := hl i x v hN e hv
  have fin : EP X pins σ Q u s := ⟨v, H, I, r, h⟩
  rcases l with ⟨hk, hm⟩ | ⟨hk, c, hc, hcell⟩
  · exact wpAny_Name (wpAny_loadName_local I.ok.kind hk hn hm fin) hd
  · rcases hk with hk | hk
    · exact wpAny_Name (wpAny_loadName_cell I.ok.kind hk hc hcell fin) hd
    · exact wpAny_Name (wpAny_loadName_free I.ok.kind hk hc hcell fin hcd) hd
theorem pe_int {i j pos} : PE X (.Constant (.int i) j pos) (tC (.int i)) := fun _ _ _ H _ I h => wpAny_Constant_int ⟨.int i, H, I.tok _, ⟨_, rfl⟩, h⟩
theorem pe_bl {b j pos} : PE X (.Constant (.bool b) j pos) (tC (.bl b)) := fun _ _ _ H _ I h => Constant_bool ⟨.bl b, H, I, rfl, h⟩
noncomputable def Gl (X : Cx) (x : Str) : Prop := X.env.kindOf x = some .globalImplicit
theorem ld_glob {E : Value → Shared → Prop} {pins : List (Addr × Obj)} {s : Shared} {σ : St} {H : Hp} {x : Str} {u : Value} {pos : Pos} {Q : Value → Shared → Prop} (I : Inv X pins σ H s) (hg : Gl X x) (hm : X.mg x = some u) (h : Q u s)
    (hd : (x == ("__debug__" : Str)) = false := by decide) : wpAny (model X.prog X.w) X.A (eval (.Name x pos) X.env) Q E s :=
  Calls.Name_function_global I.ok.kind hg (Calls.loadGlobal_global (by rw [I.ok.glob]; exact I.mod.glob.keeps I.bk) hm h) hd
theorem ld_blt {E : Value → Shared → Prop} {pins : List (Addr × Obj)} {s : Shared} {σ : St} {H : Hp} {x : Str} {u : Value} {pos : Pos} {Q : Value → Shared → Prop} (I : Inv X pins σ H s) (hg : Gl X x) (hm : X.mg x = none) (hv : bootBuiltins x = some u) (h : Q u s)
    (hn : x ≠ "__name__" := by decide) (hd : (x == ("__debug__" : Str)) = false := by decide) : wpAny (model X.prog X.w) X.A (eval (.Name x pos) X.env) Q E s := by
  obtain ⟨mb, h1, h2⟩ := I.mod.blt
  exact Calls.Name_function_global I.ok.kind hg (Calls.loadGlobal_builtin (by rw [I.ok.glob]; exact I.mod.glob.keeps I.bk) hm (by rw [I.ok.blt]; exact h1.keeps I.bk) ((h2 x hn).trans hv) h) hd
theorem pe_glob {x : Str} {v : V} {u : Value} {pos : Pos} (hg : Gl X x) (hm : X.mg x = some u) (r : RelV v u) (hd : (x == ("__debug__" : Str)) = false := by decide) : PE X (.Name x pos) (tC v) :=
  fun _ _ _ H _ I h => ld_glob I hg hm ⟨v, H, I, r, h⟩ hd
variable {a b : Expr} {ta tb : TE} {pos : Pos}
noncomputable def tB (t : TE) : TT := fun σ H Q => t σ H fun x H1 => ∃ c, x = .bl c ∧ Q c H1
theorem pt_val {e : Expr} {t : TE} (h : PE X e t) (he : ∀ whole, isTrue e X.env whole = (do let v ← whole; standAt e.pos; holding [v] (truthy v)) := by intro _; rfl) : PT X e (tB t) := by
  intro pins s σ H Q I hw
  refine isTrue_plain (thn (h pins s σ H _ I hw) fun v s1 ⟨x, H1, I1, r1, q1⟩ => ?_) (he _)
  obtain ⟨d, rfl, q⟩ := q1
  cases r1
  exact wpAny_truthy_bool ⟨H1, I1, q⟩

variable {tA tB' : TT} {rest : List Expr}
noncomputable def tAnd (t u : TT) : TT := fun σ H Q => t σ H fun c H1 => if c = true then u σ H1 Q else Q false H1
noncomputable def tOr (t u : TT) : TT := fun σ H Q => t σ H fun c H1 => if c = true then Q true H1 else u σ H1 Q
noncomputable def tNot (t : TT) : TT := fun σ H Q => t σ H fun c H1 => Q (!c) H1
theorem pw_and1 (ha : PT X a tA) : PW X (.BoolOp .And [a] pos) tA := by
  intro wh pins s σ H Q I h
  refine isTrue_and (thn (ha pins s σ H Q I h) fun c s1 e => ?_)
  cases c with
  | true => exact isTrue_and_nil e
  | false => exact e
theorem pw_or1 (ha : PT X a tA) : PW X (.BoolOp .Or [a] pos) tA := by
  intro wh pins s σ H Q I h
  refine isTrue_or (thn (ha pins s σ H Q I h) fun c s1 e => ?_)
  cases c with
  | false => exact isTrue_or_nil e
  | true => exact e
theorem pw_and (ha : PT X a tA) (hb : PW X (.BoolOp .And (b :: rest) pos) tB') : PW X (.BoolOp .And (a :: b :: rest) pos) (tAnd tA tB') := by
  intro wh pins s σ H Q I h
  refine isTrue_and (thn (ha pins s σ H _ I h) fun c s1 ⟨H1, I1, q1⟩ => ?_)
  cases c with
  | true => exact hb wh pins s1 σ H1 Q I1 q1
  | false => exact ⟨H1, I1, q1⟩
theorem pw_or (ha : PT X a tA) (hb : PW X (.BoolOp .Or (b :: rest) pos) tB') : PW X (.BoolOp .Or (a :: b :: rest) pos) (tOr tA tB') := by
  intro wh pins s σ H Q I h
  refine isTrue_or (thn (ha pins s σ H _ I h) fun c s1 ⟨H1, I1, q1⟩ => ?_)
  cases c with
  | true => exact ⟨H1, I1, q1⟩
  | false => exact hb wh pins s1 σ H1 Q I1 q1
theorem pt_not (ha : PT X a tA) : PT X (.UnaryOp .Not a pos) (tNot tA) := by
  intro pins s σ H Q I h
  exact isTrue_not (ha pins s σ H (fun c H1 => Q (!c) H1) I h)
noncomputable def tAndV (ta tb : TE) : TE := fun σ H Q => ta σ H fun x H1 => ∃ c, x = .bl c ∧ if c = true then tb σ H1 Q else Q (.bl false) H1
noncomputable def tOrV (ta tb : TE) : TE := fun σ H Q => ta σ H fun x H1 => ∃ c, x = .bl c ∧ if c = true then Q (.bl true) H1 else tb σ H1 Q
noncomputable def tNotV (ta : TE) : TE := fun σ H Q => ta σ H fun x H1 => ∃ c, x = .bl c ∧ Q (.bl (!c)) H1
theorem pe_one {op} {t : TE} (h : PE X a t) : PE X (.BoolOp op [a] pos) t := fun pins s σ H Q I hw => BoolOp_one (h pins s σ H Q I hw)
theorem pe_and (ha : PE X a ta) (hb : PE X (.BoolOp .And (b :: rest) pos) tb) : PE X (.BoolOp .And (a :: b :: rest) pos) (tAndV ta tb) := by
  intro pins s σ H Q I h
  refine BoolOp_and (thn (ha pins s σ H _ I h) fun v s1 ⟨x, H1, I1, r1, q1⟩ => ?_)
  obtain ⟨c, rfl, q1⟩ := q1
  cases r1
  refine wpAny_truthy_bool ?_
  cases c with
  | true => exact hb pins s1 σ H1 Q I1 q1
  | false => exact ⟨.bl false, H1, I1, rfl, q1⟩
theorem pe_or (ha : PE X a ta) (hb : PE X (.BoolOp .Or (b :: rest) pos) tb) : PE X (.BoolOp .Or (a :: b :: rest) pos) (tOrV ta tb) := by
  intro pins s σ H Q I h
  refine BoolOp_or (thn (ha pins s σ H _ I h) fun v s1 ⟨x, H1, I1, r1, q1⟩ => ?_)
  obtain ⟨c, rfl, q1⟩ := q1
  cases r1
  refine wpAny_truthy_bool ?_
  cases c with
  | false => exact hb pins s1 σ H1 Q I1 q1
  | true => exact ⟨.bl true, H1, I1, rfl, q1⟩
theorem pe_not (ha : PE X a ta) : PE X (.UnaryOp .Not a pos) (tNotV ta) := by
  intro pins s σ H Q I h
  refine UnaryOp_ (thn (ha pins s σ H _ I h) fun v s1 ⟨x, H1, I1, r1, q1⟩ => ?_)
  obtain ⟨c, rfl, q1⟩ := q1
  cases r1
  exact not_of (wpAny_truthy_bool ⟨.bl (!c), H1, I1, rfl, q1⟩)
noncomputable def tIf (t : TT) (ta tb : TE) : TE := fun σ H Q => t σ H fun c H1 => if c = true then ta σ H1 Q else tb σ H1 Q
theorem pe_ifExp {c : Expr} (hc : PT X c tA) (ha : PE X a ta) (hb : PE X b tb) : PE X (.IfExp c a b pos) (tIf tA ta tb) := by
  intro pins s σ H Q I h
  refine wpAny_IfExp (thn (hc pins s σ H _ I h) fun d s1 ⟨H1, I1, q1⟩ => ?_)
  cases d with
  | true => exact ha pins s1 σ H1 Q I1 q1
  | false => exact hb pins s1 σ H1 Q I1 q1
end
end L2
namespace L2
open PySem PySem.Spec PyProof.Rows
noncomputable def SqL (K : PySem.W.Frag) (H : Hp) (a : Addr) (xs : List V) : Prop :=
  Rd H a (.lst xs) ∨
    ∃ (o : Obj) (its : Array Value) (n : Nat), K.lookup a = some o ∧ o.cls = .type "list" ∧ o.dict = none ∧ o.data = .seq its n ∧ its.size ≤ sizeLine ∧ Vals xs its.toList
noncomputable def SqT (K : PySem.W.Frag) (H : Hp) (a : Addr) (xs : List V) : Prop :=
  Rd H a (.tup xs) ∨
    ∃ (o : Obj) (its : Array Value) (n : Nat), K.lookup a = some o ∧ o.cls = .type "tuple" ∧ o.data = .seq its n ∧ its.size ≤ sizeLine ∧ Vals xs its.toList
noncomputable def absV : Value → Option V
  | .none => some .non
  | .bool b => some (.bl b)
  | .int i _ => some (.int i)
  | .str x _ => some (.str x)
  | .bytes b _ => some (.byt b)
  | .float b _ => some (.flt b)
  | .ref a => some (.ref a)
  | .type n => some (.ty n)
  | _ => none
theorem RelV.abs {x : V} {u : Value} (r : RelV x u) : absV u = some x := by
  cases x with
  | non => cases r; rfl
  | bl _ => cases r; rfl
  | int _ => obtain ⟨t, rfl⟩ := r; rfl
  | str _ => obtain ⟨t, rfl⟩ := r; rfl
  | byt _ => obtain ⟨t, rfl⟩ := r; rfl
  | flt _ => obtain ⟨t, rfl⟩ := r; rfl
  | ref _ => cases r; rfl
  | ty _ => cases r; rfl
theorem RelV.inj {x y : V} {u : Value} (r : RelV x u) (q : RelV y u) : x = y := Option.some.inj (r.abs.symm.trans q.abs)
theorem Vals.inj : ∀ {xs ys : List V} {us : List Value}, Vals xs us → Vals ys us → xs = ys
  | _, _, _, .nil, .nil => rfl
  | _, _, _, .cons r t, .cons r' t' => by rw [r.inj r', Vals.inj t t']
section
variable {X : Cx} {pins : List (Addr × Obj)} {σ : St} {H : Hp} {s : Shared} {a : Addr} {xs ys : List V}
theorem SqL.of {K : PySem.W.Frag} (h : H a = some (.lst xs)) : SqL K H a xs := .inl (.inl h)
theorem SqT.of {K : PySem.W.Frag} (h : H a = some (.tup xs)) : SqT K H a xs := .inl (.inl h)
theorem Inv.list (I : Inv X pins σ H s) (h : SqL X.K H a xs) : ∃ its : List Value, Vals xs its ∧ PlainL s.heap a its.toArray ∧ xs.length ≤ sizeLine := by
  rcases h with h | ⟨o, its, n, hk, hc, hd, hs, hz, r⟩
  · obtain ⟨z, its, n, r, e⟩ := h.ok I.hok
    exact ⟨its, r, ⟨_, n, e, rfl, rfl, rfl⟩, z⟩
  · refine ⟨its.toList, r, ⟨o, n, I.kIn a o hk, hc, hd, by simpa using hs⟩, ?_⟩
    have e := r.length
    simp only [Array.length_toList] at e
    omega
theorem Inv.tuple (I : Inv X pins σ H s) (h : SqT X.K H a xs) : ∃ its : List Value, Vals xs its ∧ IsTup s.heap a its.toArray ∧ xs.length ≤ sizeLine := by
  rcases h with h | ⟨o, its, n, hk, hc, hs, hz, r⟩
  · obtain ⟨z, its, r, p⟩ := h.ok I.hok
    exact ⟨its, r, p, z⟩
  · refine ⟨its.toList, r, ⟨o, I.kIn a o hk, hc, n, by simpa using hs⟩, ?_⟩
    have e := r.length
    simp only [Array.length_toList] at e
    omega
theorem Inv.list_inj (I : Inv X pins σ H s) (h : SqL X.K H a xs) (h' : SqL X.K H a ys) : xs = ys := by
  obtain ⟨its, r, ⟨o, n, e, _, _, d⟩, _⟩ := I.list h
  obtain ⟨its', r', ⟨o', n', e', _, _, d'⟩, _⟩ := I.list h'
  rw [e] at e'; cases e'
  rw [d] at d'
  injection d' with d1 _
  have : its = its' := by simpa using congrArg Array.toList d1
  subst this
  exact r.inj r'
end
noncomputable abbrev Cx.wish (X : Cx) (E : Value → Shared → Prop) : Cx := { X with xe := E }
noncomputable abbrev Cx.nox (X : Cx) : Cx := X.wish fun _ _ => False
theorem Cx.Ok.wish {X : Cx} (ok : X.Ok) (E : Value → Shared → Prop) : (X.wish E).Ok :=
  ⟨ok.mod, ok.kind, ok.glob, ok.blt, ok.above, ok.inj, ok.has, ok.cab, ok.hd, ok.frames, ok.stk, ok.exf, ok.bs, ok.bsz, ok.noex, ok.exfs, ok.funs, ok.frf⟩
theorem Cx.Ok.unwish {X : Cx} {E : Value → Shared → Prop} (ok : (X.wish E).Ok) : X.Ok :=
  ⟨ok.mod, ok.kind, ok.glob, ok.blt, ok.above, ok.inj, ok.has, ok.cab, ok.hd, ok.frames, ok.stk, ok.exf, ok.bs, ok.bsz, ok.noex, ok.exfs, ok.funs, ok.frf⟩
section
variable {X : Cx} {pins : List (Addr × Obj)} {σ : St} {H : Hp} {s : Shared} {E : Value → Shared → Prop}
theorem Inv.wish (I : Inv X pins σ H s) (E : Value → Shared → Prop) : Inv (X.wish E) pins σ H s := ⟨I.ok.wish E, I.os, I.bare, I.base, I.loc, I.cell, I.free, I.freeC, I.pin, I.hok, I.len⟩
theorem Inv.unwish (I : Inv (X.wish E) pins σ H s) : Inv X pins σ H s := ⟨I.ok.unwish, I.os, I.bare, I.base, I.loc, I.cell, I.free, I.freeC, I.pin, I.hok, I.len⟩
theorem SP.unwish {D : Ends} {f : Flow} {s' : Shared} (h : SP (X.wish E) pins D f s') : SP X pins D f s' := by
  cases f with
  | next => obtain ⟨σ', H', I, q⟩ := h; exact ⟨σ', H', I.unwish, q⟩
  | brk => obtain ⟨σ', H', I, q⟩ := h; exact ⟨σ', H', I.unwish, q⟩
  | cont => obtain ⟨σ', H', I, q⟩ := h; exact ⟨σ', H', I.unwish, q⟩
  | ret u => obtain ⟨v, σ', H', I, r, q⟩ := h; exact ⟨v, σ', H', I.unwish, r, q⟩
theorem PSs.nox {st : List Stmt} {t : TS} (h : PSs X.nox st t) : PSs X st t := fun pins s σ H D I hw =>
  wpAny_mono (h pins s σ H D (I.wish _) hw) (fun _ _ q => q.unwish) fun _ _ z => False.elim z
end
section
variable {X : Cx} {st : Stmt} {rest : List Stmt} {t u : TS} {e : Expr} {te : TE} {pos : Pos}
noncomputable def tNext : TS := fun D σ H => D.nx σ H
noncomputable def tSeq (t u : TS) : TS := fun D σ H => t { D with nx := u D } σ H
theorem pss_nil : PSs X [] tNext := fun _ _ σ H _ I h => wpAny_execs_nil ⟨σ, H, I, h⟩
theorem pss_cons (h1 : PS X st t) (h2 : PSs X rest u) : PSs X (st :: rest) (tSeq t u) := by
  intro pins s σ H D I h
  refine wpAny_execs_cons (thn (h1 pins s σ H { D with nx := u D } I h) fun f s1 q => ?_)
  cases f with
  | next =>
    obtain ⟨σ', H', I', q⟩ := q
    exact h2 pins s1 σ' H' D I' q
  | ret v => exact q
  | brk => exact q
  | cont => exact q
theorem pss_one (h1 : PS X st t) : PSs X [st] t := by
  intro pins s σ H D I h
  refine wpAny_execs_cons (thn (h1 pins s σ H D I h) fun f s1 q => ?_)
  cases f with
  | next => exact wpAny_execs_nil q
  | ret v => exact q
  | brk => exact q
  | cont => exact q
noncomputable def tRet (te : TE) : TS := fun D σ H => te σ H D.rt
theorem ps_ret (he : PE X e te) : PS X (.Return (some e) pos) (tRet te) := by
  intro pins s σ H D I h
  exact wpAny_Return_some (thn (he pins s σ H _ I h) fun v s1 ⟨x, H1, I1, r1, q1⟩ => ⟨x, σ, H1, I1, r1, q1⟩)
noncomputable def tIfS (c : TT) (t u : TS) : TS := fun D σ H => c σ H fun b H1 => if b = true then t D σ H1 else u D σ H1
theorem ps_if {c : Expr} {a b : List Stmt} {tc : TT} (hc : PT X c tc) (ha : PSs X a t) (hb : PSs X b u) : PS X (.If c a b pos) (tIfS tc t u) := by
  intro pins s σ H D I h
  refine wpAny_If (thn (hc pins s σ H _ I h) fun d s1 ⟨H1, I1, q1⟩ => ?_)
  cases d with
  | true => exact ha pins s1 σ H1 D I1 q1
  | false => exact hb pins s1 σ H1 D I1 q1
end
noncomputable abbrev TG := V → St → Hp → (St → Hp → Prop) → Prop
noncomputable def PG (X : Cx) (target : Expr) (t : TG) : Prop :=
  ∀ (pins : List (Addr × Obj)) (s : Shared) (σ : St) (H : Hp) (v : V) (u : Value) (Q : St → Hp → Prop), Inv X pins σ H s → RelV v u → t v σ H Q →
    wpAny (model X.prog X.w) X.A (assign target X.env u) (fun _ s' => ∃ σ' H', Inv X pins σ' H' s' ∧ Q σ' H') X.xe s
noncomputable abbrev TIp := V → V → Hp → VK → Prop
noncomputable def PIp (X : Cx) (op : Operator) (t : TIp) : Prop :=
  ∀ (pins : List (Addr × Obj)) (s : Shared) (σ : St) (H : Hp) (x y : V) (v u : Value) (Q : VK), Inv X pins σ H s → RelV x v → RelV y u → t x y H Q →
    wpAny (model X.prog X.w) X.A (inplaceOp op v u) (EP X pins σ Q) X.xe s
section
variable {X : Cx} {pos : Pos}
noncomputable def gName (i : Nat) : TG := fun v σ H Q => Q (σ.set i (some v)) H
theorem pg_name {i : Nat} {x : Str} (hN : X.N.Nodup) (hi : X.N[i]? = some x) (hx : Loc X.env.scope x) (hf : X.fn x = true ∨ X.env.scope.names.lookup x = some .local := by first | exact .inl rfl | exact .inr rfl | assumption) : PG X (.Name x pos) (gName i) := by
  intro pins s σ H v u Q I r h
  exact wpAny_assign_Name (store_ok I hN hi hx r (fun s' I' => ⟨_, H, I', h⟩) hf)
noncomputable def tAsg (te : TE) (g : TG) : TS := fun D σ H => te σ H fun x H1 => g x σ H1 D.nx
theorem ps_set {i : Nat} {x : Str} {e : Expr} {te : TE} {pos' : Pos} (hN : X.N.Nodup) (hi : X.N[i]? = some x) (hx : Loc X.env.scope x) (he : PE X e te) (hs : swapsWith e (some (.Name x pos')) pos.line X.env = pure false := by rfl) (hf : X.fn x = true ∨ X.env.scope.names.lookup x = some .local := by first | exact .inl rfl | exact .inr rfl | assumption) :
    PS X (.Assign [.Name x pos'] e pos) (tAsg te (gName i)) := by
  intro pins s σ H D I h
  refine wpAny_Assign_Name (thn (he pins s σ H _ I h) fun v s1 ⟨y, H1, I1, r1, q1⟩ => ?_) hs
  exact store_ok I1 hN hi hx r1 (fun s2 I2 => ⟨_, H1, I2, q1⟩) hf
noncomputable def tAug (i : Nat) (te : TE) (ti : TIp) : TS := fun D σ H => ∃ x, σ[i]? = some (some x) ∧ te σ H fun y H1 => ti x y H1 fun z H2 => D.nx (σ.set i (some z)) H2
theorem ps_aug {i : Nat} {x : Str} {e : Expr} {te : TE} {op : Operator} {ti : TIp} {pos' : Pos} (hN : X.N.Nodup) (hi : X.N[i]? = some x) (hx : Loc X.env.scope x) (he : PE X e te) (ho : PIp X op ti) (hf : X.fn x = true ∨ X.env.scope.names.lookup x = some .local := by first | exact .inl rfl | exact .inr rfl | assumption) :
    PS X (.AugAssign (.Name x pos') op e pos) (tAug i te ti) := by
  intro pins s σ H D I h
  obtain ⟨v, e1, h⟩ := h
  obtain ⟨m, hn, hl⟩ := I.loc
  have vis : Vis X.env.scope x := by rcases hx with k | k; exact .inl k; exact .inr (.inl k)
  obtain ⟨u, r, l⟩ := hl i x v hi e1 vis
  refine wpAny_AugAssign_Name ?_
  have go : wpAny (model X.prog X.w) X.A (eval e X.env) (fun w s₂ => wpAny (model X.prog X.w) X.A (inplaceOp op u w) (fun r s₃ => wpAny (model X.prog X.w) X.A (storeName X.env x r) (fun _ => SP X pins D .next) X.xe s₃) X.xe s₂) X.xe s := by
    refine thn (he pins s σ H _ I h) fun w s1 ⟨y, H1, I1, r1, q1⟩ => ?_
    refine thn (ho pins s1 σ H1 v y u w _ I1 r r1 q1) fun z s2 ⟨zv, H2, I2, r2, q2⟩ => ?_
    exact store_ok I2 hN hi hx r2 (fun s3 I3 => ⟨_, H2, I3, q2⟩) hf
  rcases l with ⟨hk, hm⟩ | ⟨hk, c, hc, hcell⟩
  · exact wpAny_loadName_local I.ok.kind hk hn hm go
  · rcases hk with hk | hk
    · exact wpAny_loadName_cell I.ok.kind hk hc hcell go
    · rcases hx with k | k
      · have : X.env.scope.names.lookup x = some .free := hk
        rw [k] at this; cases this
      · have : X.env.scope.names.lookup x = some .free := hk
        rw [k] at this; cases this
end
section
variable {X : Cx} {pos : Pos}
noncomputable def tWhile (c : TT) (tb : TS) : TS := fun D σ H => ∃ W : Nat → St → Hp → Prop, (∃ m, W m σ H) ∧ ∀ m σ H, W m σ H →
  c σ H fun b H1 => if b = true then ∃ N : St → Hp → Prop, (∀ σ' H', N σ' H' → ∃ m', m' < m ∧ W m' σ' H') ∧ tb { D with nx := N, ct := N, bk := D.nx } σ H1 else D.nx σ H1
theorem ps_while {c : Expr} {body : List Stmt} {tc : TT} {tb : TS} (hp : PassesOwn (model X.prog X.w) X.A X.env X.xe) (hc : PT X c tc) (hb : PSs X body tb) : PS X (.While c body [] pos) (tWhile tc tb) := by
  intro pins s σ H D I h
  obtain ⟨W, ⟨m0, w0⟩, turn⟩ := h
  refine wpAny_While (codeAny_whileLoop (fun n s' => ∃ σ' H', Inv X pins σ' H' s' ∧ W n σ' H') ?_ m0 ⟨σ, H, I, w0⟩)
  rintro n s1 ⟨σ1, H1, I1, w1⟩
  refine wpAny_passesOwn hp (thn (hc pins s1 σ1 H1 _ I1 (turn n σ1 H1 w1)) fun b s2 ⟨H2, I2, q2⟩ => ?_)
  cases b with
  | true =>
    obtain ⟨N, hN, q2⟩ := q2
    rw [if_pos rfl]
    refine wpAny_passesOwn hp (thn (hb pins s2 σ1 H2 _ I2 q2) fun f s3 q3 => ?_)
    cases f with
    | next =>
      obtain ⟨σ3, H3, I3, n3⟩ := q3
      obtain ⟨m', hm, w3⟩ := hN σ3 H3 n3
      exact ⟨m', hm, σ3, H3, I3, w3⟩
    | cont =>
      obtain ⟨σ3, H3, I3, n3⟩ := q3
      obtain ⟨m', hm, w3⟩ := hN σ3 H3 n3
      exact ⟨m', hm, σ3, H3, I3, w3⟩
    | brk => exact q3
    | ret v => exact q3
  | false =>
    rw [if_neg Bool.false_ne_true]
    exact wpAny_execs_nil ⟨σ1, H2, I2, q2⟩
end
structure It where
  go : Nat → Hp → Prop
  yld : Nat → Hp → V → Hp → Prop
  stop : Nat → Hp → Prop
noncomputable def FpOk (X : Cx) (pins : List (Addr × Obj)) (H : Hp) (b : Addr) : Prop :=
  H b = none ∧ b ≠ X.env.locals ∧ b ∉ X.fs ∧ (b ∈ X.ex ∨ X.s_0.heap.objs.size ≤ b) ∧ (∀ x c, X.env.cells.lookup x = some c → c ≠ b) ∧ ∀ p ∈ X.pn ++ pins, p.1 ≠ b
theorem Inv.fpOk {X : Cx} {pins : List (Addr × Obj)} {σ : St} {H H' : Hp} {s : Shared} {b : Addr} (I : Inv X pins σ H s) (hb : s.heap.objs.size ≤ b) (hn : H' b = none) : FpOk X pins H' b := by
  refine ⟨hn, Nat.ne_of_gt (Nat.lt_of_lt_of_le I.lt hb), I.nofs hb, .inr (Nat.le_trans I.sz hb), fun x c e z => ?_, fun p hp z => ?_⟩
  · obtain ⟨v, q⟩ := I.cell x c e
    exact absurd (Nat.lt_of_lt_of_le q.lt (by rw [z]; exact hb)) (Nat.lt_irrefl _)
  · exact absurd (Nat.lt_of_lt_of_le (Heap.lt_size (I.pin p hp).1) (by rw [z]; exact hb)) (Nat.lt_irrefl _)
structure Turn (P : Program) (w : World) (K : PySem.W.Frag) (tg : Expr) (J : It) (fp : List Addr) (it : Addr) (tn : Nat → Heap → Prop) : Prop where
  mem : it ∈ fp
  obj : ∀ i h, tn i h → ∀ b ∈ fp, ∃ o, h.get? b = some o ∧ ∀ v, o.data ≠ .cell v
  keep : ∀ i h h', tn i h → (∀ b ∈ fp, ∀ o, h.get? b = some o → h'.get? b = some o) → tn i h'
  item : ∀ (X : Cx), X.prog = P → X.w = w → X.K = K → X.calm = true → ∀ (i : Nat) (pins : List (Addr × Obj)) (s : Shared) (σ : St) (H : Hp) (E : Value → Shared → Prop), Inv X pins σ H s → (∀ b ∈ fp, FpOk X pins H b) → tn i s.heap → J.go i H →
    wpAny (model P w) X.A (pyNext (.ref it)) (fun r s1 => ∃ u, r = some u ∧
      wpAny (model P w) X.A (letOwnedTupleGo tg (.ref it) u) (fun _ s2 => ∃ x H', Inv X pins σ H' s2 ∧ RelV x u ∧ J.yld i H x H' ∧ tn (i + 1) s2.heap ∧ ∀ b ∈ fp, H' b = none) E s1) E s
  done : ∀ (X : Cx), X.prog = P → X.w = w → X.K = K → X.calm = true → ∀ (i : Nat) (pins : List (Addr × Obj)) (s : Shared) (σ : St) (H : Hp) (E : Value → Shared → Prop), Inv X pins σ H s → (∀ b ∈ fp, FpOk X pins H b) → tn i s.heap → J.stop i H →
    wpAny (model P w) X.A (pyNext (.ref it)) (fun r s1 => r = none ∧ Inv X pins σ H s1) E s
  self : ∀ (A : Around) (i : Nat) (s : Shared) (Q : Value → Shared → Prop) (E : Value → Shared → Prop), tn i s.heap → Q (.ref it) s → wpAny (model P w) A (pyIter (.ref it)) Q E s
noncomputable abbrev TI := St → Hp → (It → Hp → Prop) → Prop
noncomputable def PIE (X : Cx) (pins : List (Addr × Obj)) (σ : St) (tg : Expr) (R : It → Hp → Prop) (itv : Value) (s2 : Shared) : Prop :=
  ∃ (it : Addr) (fp : List Addr) (tn : Nat → Heap → Prop) (J : It) (H' : Hp), itv = .ref it ∧ Inv X pins σ H' s2 ∧ Turn X.prog X.w X.K tg J fp it tn ∧ tn 0 s2.heap ∧ (∀ b ∈ fp, FpOk X pins H' b) ∧ R J H'
noncomputable def PI (X : Cx) (tg iter : Expr) (wi : TI) : Prop :=
  ∀ (pins : List (Addr × Obj)) (s : Shared) (σ : St) (H : Hp) (R : It → Hp → Prop), Inv X pins σ H s → wi σ H R →
    wpAny (model X.prog X.w) X.A (eval iter X.env) (fun v s1 => wpAny (model X.prog X.w) X.A (pyIter v) (PIE X pins σ tg R) X.xe s1) X.xe s

theorem go_of {M : Model} {A : Around} {E : Value → Shared → Prop} {s : Shared} {tg : Expr} {it : Addr} {u : Value} {o : Obj} {n : String} {vs : Array Value} {Q : Unit → Shared → Prop} (ho : s.heap.get? it = some o) (hc : o.cls = .type n) (hd : o.data = .fields vs)
    (hn : ["enumerate", "zip", "dict_itemiterator", "dict_reverseitemiterator", "odict_iterator", "itertools.zip_longest", "itertools.pairwise"].contains n = false) (hQ : Q () s) : wpAny M A (letOwnedTupleGo tg (.ref it) u) Q E s := by
  unfold letOwnedTupleGo
  cases tg <;> first
    | exact wpAny_pure hQ
    | (cases u <;> first
        | exact wpAny_pure hQ
        | (refine wpAny_bind (wpAny_load ho ?_)
           rw [hc, hd]
           show wpAny M A (if (["enumerate", "zip", "dict_itemiterator", "dict_reverseitemiterator", "odict_iterator", "itertools.zip_longest", "itertools.pairwise"].contains n && vs[0]? == some (rawInt _)) = true then _ else _) Q E s
           rw [if_neg (by intro h; rw [hn, Bool.false_and] at h; cases h)]
           exact wpAny_pure hQ))

noncomputable def Itl (K : PySem.W.Frag) (a : Addr) : It :=
  ⟨fun i H => ∃ xs x, SqL K H a xs ∧ xs[i]? = some x, fun i H x H' => H' = H ∧ ∀ xs, SqL K H a xs → xs[i]? = some x, fun i H => ∃ xs, SqL K H a xs ∧ xs.length ≤ i⟩
theorem turn_list {P : Program} {w : World} {K : PySem.W.Frag} {tg : Expr} (a it : Addr) : Turn P w K tg (Itl K a) [it] it (fun i h => h.IsListIter it a i) where
  mem := by simp
  obj := fun i h st b hb => by
    have e : b = it := by simpa using hb
    subst e
    obtain ⟨o, e, c, d⟩ := st
    exact ⟨o, e, fun v z => by rw [d] at z; cases z⟩
  keep := fun i h h' st k => st.at fun o e => k it (by simp) o e
  item := by
    intro X hP hw hK hc i pins s σ H E I hf st hg
    subst hP hw hK
    obtain ⟨xs, x, hq, hx⟩ := hg
    obtain ⟨its, rv, p, hz⟩ := I.list hq
    obtain ⟨u, hu, ru⟩ := rv.get hx
    obtain ⟨f0, f1, f2, f3, f4, f5⟩ := hf it (by simp)
    refine wpAny_pyNext_list_item st p.isList (x := u) (by simpa using hu) fun h' st' sb => ?_
    have I1 : Inv X pins σ H { s with heap := h' } := I.turned (t' := s.toks) (fun b o hb e => (sb.2 b hb).trans e) f0 f1 f3 f4 f5
    obtain ⟨o, e, c, d⟩ := id st'
    exact ⟨u, rfl, go_of (s := { s with heap := h' }) e c d (by decide) ⟨x, H, I1, ru, ⟨rfl, fun ys hy => by rw [I.list_inj hy hq]; exact hx⟩, st', fun b hb => (hf b hb).1⟩⟩
  done := by
    intro X hP hw hK hc i pins s σ H E I hf st hg
    subst hP hw hK
    obtain ⟨xs, hq, hx⟩ := hg
    obtain ⟨its, rv, p, hz⟩ := I.list hq
    obtain ⟨f0, f1, f2, f3, f4, f5⟩ := hf it (by simp)
    have hl := rv.length
    exact wpAny_pyNext_list_end (I.ok.hd hc) st p.isList (by simp; omega) fun h' eb => ⟨rfl, I.turned (t' := s.toks) (fun b o hb e => eb b o hb e) f0 f1 f3 f4 f5⟩
  self := fun _ _ _ _ _ st h => wpAny_pyIter_listiter st h
end L2
namespace L2
open PySem PySem.Spec PyProof.Rows
section
variable {X : Cx} {tg : Expr}
noncomputable def iList (K : PySem.W.Frag) (tl : TE) : TI := fun σ H R => tl σ H fun x H1 => ∃ a, x = .ref a ∧ (∃ xs, SqL K H1 a xs) ∧ R (Itl K a) H1
theorem pi_list {l : Expr} {tl : TE} (hl : PE X l tl) : PI X tg l (iList X.K tl) := by
  intro pins s σ H R I h
  refine thn (hl pins s σ H _ I h) fun v s1 ⟨x, H1, I1, r1, q1⟩ => ?_
  obtain ⟨a, e, ⟨xs, hq⟩, q⟩ := q1
  subst e
  cases r1
  obtain ⟨its, rv, p, hz⟩ := I1.list hq
  refine wpAny_pyIter_list p.isList ?_
  refine ⟨s1.heap.objs.size, [s1.heap.objs.size], _, _, H1, rfl, I1.kept (t' := s1.toks) fun b o e => Heap.get?_push_of_some _ e, turn_list a _, ⟨_, Heap.get?_push_size _ rfl, rfl, rfl⟩, fun b hb => ?_, q⟩
  have e : b = s1.heap.objs.size := by simpa using hb
  subst e
  exact I1.fpOk (Nat.le_refl _) (I1.hok.fresh (Nat.le_refl _))
noncomputable def tFor (wi : TI) (g : TG) (tb : TS) : TS := fun D σ H => wi σ H fun J H1 => ∃ W : Nat → Nat → St → Hp → Prop, (∃ m, W 0 m σ H1) ∧ ∀ i m σ H, W i m σ H →
  (J.stop i H ∧ D.nx σ H) ∨ (J.go i H ∧ ∃ N : St → Hp → Prop, (∀ σ' H', N σ' H' → ∃ m', m' < m ∧ W (i + 1) m' σ' H') ∧ ∀ x H', J.yld i H x H' → g x σ H' fun σ2 H2 => tb { D with nx := N, ct := N, bk := D.nx } σ2 H2)
noncomputable def pinsAt (fp : List Addr) (h : Heap) : List (Addr × Obj) := fp.filterMap fun b => (h.get? b).map fun o => (b, o)
theorem mem_pinsAt {fp : List Addr} {h : Heap} {b : Addr} {o : Obj} (hb : b ∈ fp) (e : h.get? b = some o) : (b, o) ∈ pinsAt fp h := List.mem_filterMap.mpr ⟨b, hb, by rw [e]; rfl⟩
theorem of_pinsAt {fp : List Addr} {h : Heap} {p : Addr × Obj} (hp : p ∈ pinsAt fp h) : p.1 ∈ fp ∧ h.get? p.1 = some p.2 := by
  obtain ⟨b, hb, e⟩ := List.mem_filterMap.mp hp
  cases q : h.get? b with
  | none => rw [q] at e; cases e
  | some o =>
    rw [q] at e
    have e' : (b, o) = p := Option.some.inj e
    subst e'
    exact ⟨hb, q⟩
theorem Inv.pinned {pins : List (Addr × Obj)} {σ : St} {H : Hp} {s : Shared} {fp : List Addr} (I : Inv X pins σ H s) (hf : ∀ b ∈ fp, FpOk X pins H b) (ho : ∀ b ∈ fp, ∃ o, s.heap.get? b = some o ∧ ∀ v, o.data ≠ .cell v) : Inv X (pins ++ pinsAt fp s.heap) σ H s :=
  I.pins_of fun p hp => (List.mem_append.mp hp).elim (fun z => I.pin p (List.mem_append_right _ z)) fun z => by
    obtain ⟨hb, e⟩ := of_pinsAt z
    obtain ⟨f0, f1, f2, _⟩ := hf p.1 hb
    obtain ⟨o, e', d⟩ := ho p.1 hb
    rw [e] at e'; cases e'
    exact ⟨e, f0, f1, f2, d⟩
theorem Inv.unpinned {pins pl : List (Addr × Obj)} {σ : St} {H : Hp} {s : Shared} (I : Inv X (pins ++ pl) σ H s) : Inv X pins σ H s := I.pins_of fun p hp => I.pin p (List.mem_append_right _ (List.mem_append_left _ hp))
theorem ps_for {iter : Expr} {body : List Stmt} {wi : TI} {g : TG} {tb : TS} {pos : Pos} (hp : PassesOwn (model X.prog X.w) X.A X.env X.xe) (hc : X.calm = true) (hi : PI X tg iter wi) (hg : PG X tg g) (hb : PSs X body tb)
    (hs : ∀ x, foldedSetIterable iter X.env x = pure x := by intro _; rfl) : PS X (.For tg iter body [] pos) (tFor wi g tb) := by
  intro pins s σ H D I h
  refine wpAny_For (thn (hi pins s σ H _ I h) fun v s1 h1 => thn h1 fun itv s2 h2 => ?_) hs
  obtain ⟨it, fp, tn, J, H2, e, I2, T, st2, f2, W, ⟨m0, w0⟩, turn⟩ := h2
  subst e
  -- what stays true of the iterator's objects through the loop
  have stat : ∀ {H' : Hp}, (∀ b ∈ fp, H' b = none) → ∀ b ∈ fp, FpOk X pins H' b := fun hn b hb => ⟨hn b hb, (f2 b hb).2⟩
  refine codeAny_forLoop_any (fun n s' => ∃ i σ' H', Inv X pins σ' H' s' ∧ tn i s'.heap ∧ (∀ b ∈ fp, H' b = none) ∧ W i n σ' H') ?_ m0 ⟨0, σ, H2, I2, st2, fun b hb => (f2 b hb).1, w0⟩
  rintro n s3 ⟨i, σ3, H3, I3, st3, fr3, w3⟩
  rcases turn i n σ3 H3 w3 with ⟨stop, qn⟩ | ⟨go, N, hN, step⟩
  · refine wpAny_passesOwn hp (thn (T.done X rfl rfl rfl hc i pins s3 σ3 H3 X.xe I3 (stat fr3) st3 stop) fun r s4 ⟨hr, I4⟩ => ?_)
    subst hr
    exact wpAny_execs_nil ⟨σ3, H3, I4, qn⟩
  · refine wpAny_passesOwn hp (thn (T.item X rfl rfl rfl hc i pins s3 σ3 H3 X.xe I3 (stat fr3) st3 go) fun r s4 ⟨u, hr, h4⟩ => ?_)
    subst hr
    refine wpAny_passesOwn hp (thn h4 fun _ s5 ⟨x, H5, I5, r5, y5, st5, fr5⟩ => ?_)
    have I5' := I5.pinned (stat fr5) (T.obj _ _ st5)
    refine wpAny_passesOwn hp (thn (hg _ s5 σ3 H5 x u _ I5' r5 (step x H5 y5)) fun _ s6 ⟨σ6, H6, I6, q6⟩ => ?_)
    refine wpAny_passesOwn hp (thn (hb _ s6 σ6 H6 _ I6 q6) fun f s7 q7 => ?_)
    have again : ∀ {σ7 : St} {H7 : Hp}, Inv X (pins ++ pinsAt fp s5.heap) σ7 H7 s7 → N σ7 H7 → ∃ m, m < n ∧ ∃ i σ' H', Inv X pins σ' H' s7 ∧ tn i s7.heap ∧ (∀ b ∈ fp, H' b = none) ∧ W i m σ' H' := fun {σ7 H7} I7 n7 => by
      obtain ⟨m', hm, w7⟩ := hN σ7 H7 n7
      refine ⟨m', hm, i + 1, σ7, H7, I7.unpinned, T.keep _ _ _ st5 fun b hb o e => (I7.pin (b, o) (List.mem_append_right _ (List.mem_append_right _ (mem_pinsAt hb e)))).1, fun b hb => ?_, w7⟩
      obtain ⟨o, e, d⟩ := T.obj _ _ st5 b hb
      exact (I7.pin (b, o) (List.mem_append_right _ (List.mem_append_right _ (mem_pinsAt hb e)))).2.1
    cases f with
    | next => obtain ⟨σ7, H7, I7, n7⟩ := q7; exact again I7 n7
    | cont => obtain ⟨σ7, H7, I7, n7⟩ := q7; exact again I7 n7
    | brk => obtain ⟨σ7, H7, I7, q7⟩ := q7; exact ⟨σ7, H7, I7.unpinned, q7⟩
    | ret v => obtain ⟨x7, σ7, H7, I7, r7, q7⟩ := q7; exact ⟨x7, σ7, H7, I7.unpinned, r7, q7⟩
end
theorem for_list {K : PySem.W.Frag} {a : Addr} {xs : List V} {g : TG} {tb : TS} {D : Ends} {σ : St} {H : Hp} (Pv : Nat → St → Hp → Prop) (h0 : Pv 0 σ H) (hl : ∀ i σ H, i ≤ xs.length → Pv i σ H → SqL K H a xs)
    (hs : ∀ i x σ H, xs[i]? = some x → Pv i σ H → g x σ H fun σ2 H2 => tb { D with nx := Pv (i + 1), ct := Pv (i + 1), bk := D.nx } σ2 H2) (hd : ∀ σ H, Pv xs.length σ H → D.nx σ H) :
    ∃ W : Nat → Nat → St → Hp → Prop, (∃ m, W 0 m σ H) ∧ ∀ i m σ H, W i m σ H →
      ((Itl K a).stop i H ∧ D.nx σ H) ∨ ((Itl K a).go i H ∧ ∃ N : St → Hp → Prop, (∀ σ' H', N σ' H' → ∃ m', m' < m ∧ W (i + 1) m' σ' H') ∧ ∀ x H', (Itl K a).yld i H x H' → g x σ H' fun σ2 H2 => tb { D with nx := N, ct := N, bk := D.nx } σ2 H2) := by
  refine ⟨fun i m σ H => m = xs.length - i ∧ i ≤ xs.length ∧ Pv i σ H, ⟨xs.length, by simp, Nat.zero_le _, h0⟩, ?_⟩
  rintro i m σ H ⟨rfl, hi, p⟩
  have q := hl i σ H hi p
  by_cases hlt : i < xs.length
  · refine .inr ⟨⟨xs, xs[i], q, by simp [hlt]⟩, Pv (i + 1), fun σ' H' p' => ⟨xs.length - (i + 1), by omega, rfl, hlt, p'⟩, fun x H' y => ?_⟩
    obtain ⟨e, y⟩ := y
    subst e
    exact hs i x σ _ (y xs q) p
  · have e : i = xs.length := by omega
    subst e
    exact .inl ⟨⟨xs, q, Nat.le_refl _⟩, hd σ H p⟩
end L2
namespace L2
open PySem PySem.Spec PyProof.Rows
noncomputable abbrev R2 := V → V → Hp → VK → Prop
noncomputable def OpR (X : Cx) (f : Value → Value → Sem Value) (r : R2) : Prop :=
  ∀ (pins : List (Addr × Obj)) (s : Shared) (σ : St) (H : Hp) (x y : V) (v u : Value) (Q : VK), Inv X pins σ H s → RelV x v → RelV y u → r x y H Q →
    wpAny (model X.prog X.w) X.A (f v u) (EP X pins σ Q) X.xe s
noncomputable def UnR (X : Cx) (f : Value → Sem Value) (r : V → Hp → VK → Prop) : Prop :=
  ∀ (pins : List (Addr × Obj)) (s : Shared) (σ : St) (H : Hp) (x : V) (v : Value) (Q : VK), Inv X pins σ H s → RelV x v → r x H Q →
    wpAny (model X.prog X.w) X.A (f v) (EP X pins σ Q) X.xe s
noncomputable def CallR (X : Cx) (f : Value) (r : List V → Hp → VK → Prop) : Prop :=
  ∀ (pins : List (Addr × Obj)) (s : Shared) (σ : St) (H : Hp) (xs : List V) (us : List Value) (Q : VK), Inv X pins σ H s → Vals xs us → r xs H Q →
    wpAny (model X.prog X.w) X.A (call f us) (EP X pins σ Q) X.xe s
noncomputable def tOp (r : R2) (ta tb : TE) : TE := fun σ H Q => ta σ H fun x H1 => tb σ H1 fun y H2 => r x y H2 Q
noncomputable def tUn (r : V → Hp → VK → Prop) (ta : TE) : TE := fun σ H Q => ta σ H fun x H1 => r x H1 Q
noncomputable def rI (C : Int → Int → Prop) (g : Int → Int → V) : R2 := fun x y H Q => ∃ i j, x = .int i ∧ y = .int j ∧ C i j ∧ Q (g i j) H
noncomputable def rI0 (g : Int → Int → V) : R2 := fun x y H Q => ∃ i j, x = .int i ∧ y = .int j ∧ Q (g i j) H
noncomputable def rU (g : Int → V) : V → Hp → VK → Prop := fun x H Q => ∃ i, x = .int i ∧ Q (g i) H

section
variable {X : Cx} {a b c : Expr} {ta tb tc : TE} {pos : Pos}
theorem binT (ha : PE X a ta) (hb : PE X b tb) {pins : List (Addr × Obj)} {s : Shared} {σ : St} {H : Hp} {R : V → V → Hp → Prop} (I : Inv X pins σ H s)
    (h : ta σ H fun x H1 => tb σ H1 fun y H2 => R x y H2) {Q : Value → Shared → Prop} {f : Value → Value → Sem Value}
    (hf : ∀ v u s2 x y H2, Inv X pins σ H2 s2 → RelV x v → RelV y u → R x y H2 → wpAny (model X.prog X.w) X.A (f v u) Q X.xe s2) :
    wpAny (model X.prog X.w) X.A (eval a X.env) (fun v s₁ => wpAny (model X.prog X.w) X.A (eval b X.env) (fun u s₂ => wpAny (model X.prog X.w) X.A (f v u) Q X.xe s₂) X.xe s₁) X.xe s := by
  refine thn (ha pins s σ H _ I h) fun v s1 ⟨x, H1, I1, r1, q1⟩ => ?_
  refine thn (hb pins s1 σ H1 _ I1 q1) fun u s2 ⟨y, H2, I2, r2, q2⟩ => ?_
  exact hf v u s2 x y H2 I2 r1 r2 q2

theorem pe_op {op : Operator} {r : R2} (ho : OpR X (binaryOp op) r) (ha : PE X a ta) (hb : PE X b tb) : PE X (.BinOp a op b pos) (tOp r ta tb) := by
  intro pins s σ H Q I h
  exact wpAny_BinOp (binT ha hb I h fun v u s2 x y H2 I2 rx ry q => ho pins s2 σ H2 x y v u Q I2 rx ry q)
theorem pe_un {op : UnaryOp} {r : V → Hp → VK → Prop} (ho : UnR X (unaryOp op) r) (ha : PE X a ta) : PE X (.UnaryOp op a pos) (tUn r ta) := by
  intro pins s σ H Q I h
  exact UnaryOp_ (thn (ha pins s σ H _ I h) fun v s1 ⟨x, H1, I1, r1, q1⟩ => ho pins s1 σ H1 x v Q I1 r1 q1)
theorem opI {f : Value → Value → Sem Value} {C : Int → Int → Prop} {g : Int → Int → Int}
    (rule : ∀ (i j : Int) (t u : Tok) (s : Shared) (Q : Value → Shared → Prop) (E : Value → Shared → Prop), C i j → Q (.int (g i j) s.toks) { s with toks := s.toks + 1 } → wpAny (model X.prog X.w) X.A (f (.int i t) (.int j u)) Q E s) :
    OpR X f (rI C fun i j => .int (g i j)) := by
  intro pins s σ H x y v u Q I rx ry h
  obtain ⟨i, j, rfl, rfl, hc, q⟩ := h
  obtain ⟨t, rfl⟩ := rx
  obtain ⟨t', rfl⟩ := ry
  exact rule i j t t' s _ _ hc ⟨.int (g i j), H, I.tok _, ⟨_, rfl⟩, q⟩
theorem opI0 {f : Value → Value → Sem Value} {g : Int → Int → Int}
    (rule : ∀ (i j : Int) (t u : Tok) (s : Shared) (Q : Value → Shared → Prop) (E : Value → Shared → Prop), Q (.int (g i j) s.toks) { s with toks := s.toks + 1 } → wpAny (model X.prog X.w) X.A (f (.int i t) (.int j u)) Q E s) :
    OpR X f (rI0 fun i j => .int (g i j)) := by
  intro pins s σ H x y v u Q I rx ry h
  obtain ⟨i, j, rfl, rfl, q⟩ := h
  obtain ⟨t, rfl⟩ := rx
  obtain ⟨t', rfl⟩ := ry
  exact rule i j t t' s _ _ ⟨.int (g i j), H, I.tok _, ⟨_, rfl⟩, q⟩
theorem opB0 {f : Value → Value → Sem Value} {g : Int → Int → Bool}
    (rule : ∀ (i j : Int) (t u : Tok) (s : Shared) (Q : Value → Shared → Prop) (E : Value → Shared → Prop), Q (.bool (g i j)) s → wpAny (model X.prog X.w) X.A (f (.int i t) (.int j u)) Q E s) :
    OpR X f (rI0 fun i j => .bl (g i j)) := by
  intro pins s σ H x y v u Q I rx ry h
  obtain ⟨i, j, rfl, rfl, q⟩ := h
  obtain ⟨t, rfl⟩ := rx
  obtain ⟨t', rfl⟩ := ry
  exact rule i j t t' s _ _ ⟨.bl (g i j), H, I, rfl, q⟩

theorem op_add : OpR X (binaryOp .Add) (rI0 fun i j => .int (i + j)) := opI0 fun _ _ _ _ _ _ _ q => add_int q
theorem op_sub : OpR X (binaryOp .Sub) (rI0 fun i j => .int (i - j)) := opI0 fun _ _ _ _ _ _ _ q => sub_int q
theorem op_mod : OpR X (binaryOp .Mod) (rI (fun _ j => 0 < j) fun i j => .int (i % j)) := opI fun i j _ _ _ _ _ hc q => by
  have h1 : (0 : Int) < j := hc
  exact mod_int' (by omega) (by rw [Int.fmod_eq_emod_of_nonneg i (by omega)]; exact q)
theorem iop_add : OpR X (inplaceOp .Add) (rI0 fun i j => .int (i + j)) := opI0 fun _ _ _ _ _ _ _ q => iadd_int q
theorem unI {f : Value → Sem Value} {g : Int → Int}
    (rule : ∀ (i : Int) (t : Tok) (s : Shared) (Q : Value → Shared → Prop) (E : Value → Shared → Prop), Q (.int (g i) s.toks) { s with toks := s.toks + 1 } → wpAny (model X.prog X.w) X.A (f (.int i t)) Q E s) :
    UnR X f (rU fun i => .int (g i)) := by
  intro pins s σ H x v Q I rx h
  obtain ⟨i, rfl, q⟩ := h
  obtain ⟨t, rfl⟩ := rx
  exact rule i t s _ _ ⟨.int (g i), H, I.tok _, ⟨_, rfl⟩, q⟩
theorem un_neg : UnR X (unaryOp .USub) (rU fun i => .int (-i)) := unI fun _ _ _ _ _ q => neg_int q
end
noncomputable def scal : V → V → Bool
  | .non, .non => true | .non, .int _ => true | .int _, .non => true | .non, .bl _ => true | .bl _, .non => true | .non, .str _ => true | .str _, .non => true
  | .int _, .int _ => true | .bl _, .bl _ => true | .str _, .str _ => true | .byt _, .byt _ => true
  | .int _, .str _ => true | .str _, .int _ => true | .bl _, .str _ => true | .str _, .bl _ => true
  | _, _ => false
noncomputable def rEq : R2 := fun x y H Q => scal x y = true ∧ Q (.bl (decide (x = y))) H
noncomputable def rNe : R2 := fun x y H Q => scal x y = true ∧ Q (.bl (!decide (x = y))) H

theorem dec_int {i j : Int} : decide (V.int i = V.int j) = (i == j) := by
  rw [Bool.eq_iff_iff]
  simp
theorem dec_bl {i j : Bool} : decide (V.bl i = V.bl j) = (i == j) := by
  rw [Bool.eq_iff_iff]
  simp
theorem dec_str {i j : Str} : decide (V.str i = V.str j) = (i == j) := by
  rw [Bool.eq_iff_iff]
  simp
theorem dec_byt {i j : Array UInt8} : decide (V.byt i = V.byt j) = (i.toList == j.toList) := by
  rw [Bool.eq_iff_iff]
  cases i
  cases j
  simp

section
variable {X : Cx} {a b c : Expr} {ta tb tc : TE} {pos : Pos}
theorem fin_bl {pins : List (Addr × Obj)} {σ : St} {H : Hp} {s : Shared} {Q : VK} {k k' : Bool} (I : Inv X pins σ H s) (q : Q (.bl k) H) (e : k = k') : EP X pins σ Q (.bool k') s := by
  subst e
  exact ⟨.bl k, H, I, rfl, q⟩
theorem op_eq : OpR X (compareOp .Eq) rEq := by
  intro pins s σ H x y v u Q I rx ry h
  obtain ⟨hs, q⟩ := h
  cases x with
  | non =>
    cases rx
    cases y with
    | non => cases ry; exact PySem.EqNone.eq_none_none (fin_bl I q (by simp))
    | bl j => cases ry; exact PySem.EqNone.eq_none_bool (fin_bl I q (by simp))
    | int j => obtain ⟨t', rfl⟩ := ry; exact PySem.EqNone.eq_none_int (fin_bl I q (by simp))
    | str j => obtain ⟨t', rfl⟩ := ry; exact PySem.EqNone.eq_none_str (fin_bl I q (by simp))
    | _ => exact absurd (show false = true from hs) Bool.false_ne_true
  | bl i =>
    cases rx
    cases y with
    | non => cases ry; exact PySem.EqNone.eq_bool_none (fin_bl I q (by simp))
    | bl j => cases ry; exact eq_bool (fin_bl I q dec_bl)
    | str j => obtain ⟨t', rfl⟩ := ry; exact PySem.EqMixed.eq_bool_str (fin_bl I q (by simp))
    | _ => exact absurd (show false = true from hs) Bool.false_ne_true
  | int i =>
    obtain ⟨t, rfl⟩ := rx
    cases y with
    | non => cases ry; exact PySem.EqNone.eq_int_none (fin_bl I q (by simp))
    | int j => obtain ⟨t', rfl⟩ := ry; exact eq_int (fin_bl I q dec_int)
    | str j => obtain ⟨t', rfl⟩ := ry; exact PySem.EqMixed.eq_int_str (fin_bl I q (by simp))
    | _ => exact absurd (show false = true from hs) Bool.false_ne_true
  | str i =>
    obtain ⟨t, rfl⟩ := rx
    cases y with
    | non => cases ry; exact PySem.EqNone.eq_str_none (fin_bl I q (by simp))
    | bl j => cases ry; exact PySem.EqMixed.eq_str_bool (fin_bl I q (by simp))
    | int j => obtain ⟨t', rfl⟩ := ry; exact PySem.EqMixed.eq_str_int (fin_bl I q (by simp))
    | str j => obtain ⟨t', rfl⟩ := ry; exact eq_str (fin_bl I q dec_str)
    | _ => exact absurd (show false = true from hs) Bool.false_ne_true
  | byt i =>
    obtain ⟨t, rfl⟩ := rx
    cases y with
    | byt j => obtain ⟨t', rfl⟩ := ry; exact PySem.W.eq_bytes (fin_bl I q dec_byt)
    | _ => exact absurd (show false = true from hs) Bool.false_ne_true
  | _ => cases y <;> exact absurd (show false = true from hs) Bool.false_ne_true
theorem op_ne : OpR X (compareOp .NotEq) rNe := by
  intro pins s σ H x y v u Q I rx ry h
  obtain ⟨hs, q⟩ := h
  cases x with
  | non =>
    cases rx
    cases y with
    | non => cases ry; exact PySem.EqNone.ne_none_none (fin_bl I q (by simp))
    | bl j => cases ry; exact PySem.EqNone.ne_none_bool (fin_bl I q (by simp))
    | int j => obtain ⟨t', rfl⟩ := ry; exact PySem.EqNone.ne_none_int (fin_bl I q (by simp))
    | str j => obtain ⟨t', rfl⟩ := ry; exact PySem.EqNone.ne_none_str (fin_bl I q (by simp))
    | _ => exact absurd (show false = true from hs) Bool.false_ne_true
  | bl i =>
    cases rx
    cases y with
    | non => cases ry; exact PySem.EqNone.ne_bool_none (fin_bl I q (by simp))
    | bl j => cases ry; exact ne_bool (fin_bl I q (congrArg not dec_bl))
    | str j => obtain ⟨t', rfl⟩ := ry; exact PySem.EqMixed.ne_bool_str (fin_bl I q (by simp))
    | _ => exact absurd (show false = true from hs) Bool.false_ne_true
  | int i =>
    obtain ⟨t, rfl⟩ := rx
    cases y with
    | non => cases ry; exact PySem.EqNone.ne_int_none (fin_bl I q (by simp))
    | int j => obtain ⟨t', rfl⟩ := ry; exact ne_int (fin_bl I q (congrArg not dec_int))
    | str j => obtain ⟨t', rfl⟩ := ry; exact PySem.EqMixed.ne_int_str (fin_bl I q (by simp))
    | _ => exact absurd (show false = true from hs) Bool.false_ne_true
  | str i =>
    obtain ⟨t, rfl⟩ := rx
    cases y with
    | non => cases ry; exact PySem.EqNone.ne_str_none (fin_bl I q (by simp))
    | bl j => cases ry; exact PySem.EqMixed.ne_str_bool (fin_bl I q (by simp))
    | int j => obtain ⟨t', rfl⟩ := ry; exact PySem.EqMixed.ne_str_int (fin_bl I q (by simp))
    | str j => obtain ⟨t', rfl⟩ := ry; exact ne_str (fin_bl I q (congrArg not dec_str))
    | _ => exact absurd (show false = true from hs) Bool.false_ne_true
  | byt i =>
    obtain ⟨t, rfl⟩ := rx
    cases y with
    | byt j => obtain ⟨t', rfl⟩ := ry; exact PySem.W.ne_bytes (fin_bl I q (congrArg not dec_byt))
    | _ => exact absurd (show false = true from hs) Bool.false_ne_true
  | _ => cases y <;> exact absurd (show false = true from hs) Bool.false_ne_true

theorem op_lt : OpR X (compareOp .Lt) (rI0 fun i j => .bl (decide (i < j))) := opB0 fun _ _ _ _ _ _ _ q => lt_int q
theorem op_le : OpR X (compareOp .LtE) (rI0 fun i j => .bl (decide (i ≤ j))) := opB0 fun _ _ _ _ _ _ _ q => le_int q
theorem op_gt : OpR X (compareOp .Gt) (rI0 fun i j => .bl (decide (j < i))) := opB0 fun _ _ _ _ _ _ _ q => gt_int q
theorem op_ge : OpR X (compareOp .GtE) (rI0 fun i j => .bl (decide (j ≤ i))) := opB0 fun _ _ _ _ _ _ _ q => ge_int q
theorem nomark (b : Expr) {op : CmpOp} (h : op ≠ .In := by decide) (h2 : op ≠ .NotIn := by decide) : behindInMarks op b = false := by
  have e1 : (op == CmpOp.In) = false := by cases op <;> first | rfl | exact absurd rfl h
  have e2 : (op == CmpOp.NotIn) = false := by cases op <;> first | rfl | exact absurd rfl h2
  cases b <;> simp [behindInMarks, e1, e2]
theorem pe_cmpR {op : CmpOp} {r : R2} (ho : OpR X (compareOp op) r) (ha : PE X a ta) (hb : PE X b tb) (hm : behindInMarks op b = false) : PE X (.Compare a [op] [b] pos) (tOp r ta tb) := by
  intro pins s σ H Q I h
  exact wpAny_Compare1 (binT ha hb I h fun v u s2 x y H2 I2 rx ry q => ho pins s2 σ H2 x y v u Q I2 rx ry q) hm
noncomputable def tTest (t : TE) : TT := fun σ H Q => t σ H fun x H' => ∃ k, x = .bl k ∧ Q k H'
theorem pt_cmpR {op : CmpOp} {r : R2} (ho : OpR X (compareOp op) r) (ha : PE X a ta) (hb : PE X b tb) (hm : behindInMarks op b = false) : PT X (.Compare a [op] [b] pos) (tTest (tOp r ta tb)) := by
  intro pins s σ H Q I h
  refine wpAny_isTrue_Compare1 (thn (ha pins s σ H _ I h) fun v s1 ⟨x, H1, I1, r1, q1⟩ => thn (hb pins s1 σ H1 _ I1 q1) fun u s2 ⟨y, H2, I2, r2, q2⟩ =>
    thn (ho pins s2 σ H2 x y v u _ I2 r1 r2 q2) fun c s3 ⟨z, H3, I3, r3, k, e, q3⟩ => ?_) hm
  subst e
  cases r3
  exact wpAny_truthy_bool ⟨H3, I3, q3⟩
noncomputable def tChain (r r' : R2) (ta tb tc : TE) : TE := fun σ H Q => ta σ H fun x H1 => tb σ H1 fun y H2 => r x y H2 fun z H3 => ∃ k, z = .bl k ∧
  (if k = true then tc σ H3 fun w' H4 => r' y w' H4 Q else Q (.bl false) H3)
theorem pe_chain {op op' : CmpOp} {r r' : R2} (ho : OpR X (compareOp op) r) (ho' : OpR X (compareOp op') r') (ha : PE X a ta) (hb : PE X b tb) (hc : PE X c tc)
    (hm : lastMarks [op, op'] [b, c] = false := by with_unfolding_all rfl) : PE X (.Compare a [op, op'] [b, c] pos) (tChain r r' ta tb tc) := by
  intro pins s σ H Q I h
  refine Compare_chain (thn (ha pins s σ H _ I h) fun v s1 ⟨x, H1, I1, r1, q1⟩ => chain_link (thn (hb pins s1 σ H1 _ I1 q1) fun u s2 ⟨y, H2, I2, r2, q2⟩ =>
    thn (ho pins s2 σ H2 x y v u _ I2 r1 r2 q2) fun d s3 ⟨z, H3, I3, r3, k, e, q3⟩ => ?_)) hm
  subst e
  cases r3
  refine wpAny_truthy_bool ?_
  cases k with
  | false => exact ite_ff ⟨.bl false, H3, I3, rfl, q3⟩
  | true => exact ite_tt (chain_last (thn (hc pins s3 σ H3 _ I3 q3) fun w' s4 ⟨z', H4, I4, r4, q4⟩ => ho' pins s4 σ H4 y z' u w' Q I4 r2 r4 q4))
theorem pt_chain {op op' : CmpOp} {r r' : R2} (ho : OpR X (compareOp op) r) (ho' : OpR X (compareOp op') r') (ha : PE X a ta) (hb : PE X b tb) (hc : PE X c tc)
    (hm : lastMarks [op, op'] [b, c] = false := by with_unfolding_all rfl) : PT X (.Compare a [op, op'] [b, c] pos) (tTest (tChain r r' ta tb tc)) := by
  intro pins s σ H Q I h
  refine isTrue_chain (thn (ha pins s σ H _ I h) fun v s1 ⟨x, H1, I1, r1, q1⟩ => test_link (thn (hb pins s1 σ H1 _ I1 q1) fun u s2 ⟨y, H2, I2, r2, q2⟩ =>
    thn (ho pins s2 σ H2 x y v u _ I2 r1 r2 q2) fun d s3 ⟨z, H3, I3, r3, k, e, q3⟩ => ?_)) hm
  subst e
  cases r3
  refine wpAny_truthy_bool ?_
  cases k with
  | false =>
    obtain ⟨k', e', q'⟩ := q3
    cases e'
    exact ite_ff ⟨H3, I3, q'⟩
  | true =>
    refine ite_tt (test_last (thn (hc pins s3 σ H3 _ I3 q3) fun w' s4 ⟨z', H4, I4, r4, q4⟩ => thn (ho' pins s4 σ H4 y z' u w' _ I4 r2 r4 q4) fun d' s5 ⟨z2, H5, I5, r5, k2, e2, q5⟩ => ?_))
    subst e2
    cases r5
    exact wpAny_truthy_bool ⟨H5, I5, q5⟩

theorem line63 : (sizeLine : Nat) < 2 ^ 63 := by rw [sizeLine_eq]; decide
theorem vals1 {x : V} {us : List Value} (r : Vals [x] us) : ∃ u, us = [u] ∧ RelV x u := by
  cases r with
  | cons r1 r2 => cases r2; exact ⟨_, rfl, r1⟩
theorem vals2 {x y : V} {us : List Value} (r : Vals [x, y] us) : ∃ u w', us = [u, w'] ∧ RelV x u ∧ RelV y w' := by
  cases r with
  | cons r1 r2 =>
    cases r2 with
    | cons r3 r4 => cases r4; exact ⟨_, _, rfl, r1, r3⟩
theorem call_abs : CallR X (.builtin "abs") (fun xs H Q => ∃ i, xs = [.int i] ∧ Q (.int (if i < 0 then -i else i)) H) := by
  intro pins s σ H xs us Q I r h
  obtain ⟨i, rfl, q⟩ := h
  obtain ⟨u, rfl, t, rfl⟩ := vals1 r
  exact call_abs_int fun u tk => ⟨.int (if i < 0 then -i else i), H, I.tok _, ⟨_, rfl⟩, q⟩
theorem call_max2 (hc : X.calm = true) : CallR X (.builtin "max") (fun xs H Q => ∃ i j, xs = [.int i, .int j] ∧ Q (.int (if j > i then j else i)) H) := by
  intro pins s σ H xs us Q I r h
  obtain ⟨i, j, rfl, q⟩ := h
  obtain ⟨u, w', rfl, ⟨t, rfl⟩, ⟨t', rfl⟩⟩ := vals2 r
  refine max_two_ints (I.ok.hd hc) fun h' tk k => ⟨_, H, I.kept k, ?_, q⟩
  by_cases hj : j > i
  · rw [if_pos hj, if_pos hj]; exact ⟨_, rfl⟩
  · rw [if_neg hj, if_neg hj]; exact ⟨_, rfl⟩
end
end L2
namespace L2
open PySem PySem.Spec PyProof.Rows
structure ObjM (h : Heap) (x dx C : Addr) (mA : Str → Option Value) : Prop where
  obj : h.get? x = some (PySem.W.instObj C dx)
  ns : h.Ns1 dx mA
  ne : dx ≠ x

theorem lookIn_ns {h : Heap} {dx : Addr} {mA : Str → Option Value} (n : h.Ns1 dx mA) : ∃ od, h.get? dx = some od ∧ ∀ name, PySem.W.lookIn name od = some (mA name) := by
  obtain ⟨o, es, ep, ho, hd, hk, _, hm⟩ := n
  refine ⟨o, ho, fun name => ?_⟩
  have e := hm name
  unfold nsFind findBy at e
  rw [← Array.find?_toList] at e
  unfold PySem.W.lookIn
  rw [hd]
  dsimp only
  split
  · rename_i y q
    rw [q] at e
    exact congrArg some e
  · rename_i q
    rw [q] at e
    have a : es.toList.any (·.refKey) = false := by
      rw [List.any_eq_false]
      intro y hy
      obtain ⟨z, t, hkey⟩ := hk y (Array.mem_toList_iff.mp hy)
      simp [DictEntry.refKey, hkey]
    have a' : ¬ es.toList.any (·.refKey) = true := by rw [a]; exact Bool.false_ne_true
    rw [if_neg a']
    exact congrArg some e

theorem ObjM.look {h : Heap} {x dx C : Addr} {mA : Str → Option Value} (I : ObjM h x dx C mA) : ∃ od, PySem.W.InstAt h x (PySem.W.instObj C dx) C (some od) ∧ ∀ name, PySem.W.lookIn name od = some (mA name) :=
  let ⟨od, ho, hl⟩ := lookIn_ns I.ns
  ⟨od, ⟨I.obj, rfl, rfl, ho⟩, hl⟩

section
variable {prog : Program} {w : World} {A : Around} {E : Value → Shared → Prop} {s : Shared} {K : PySem.W.Frag} {x dx C f : Addr} {mA : Str → Option Value} {name : Str} {v : Value}
theorem get_map {expr : Bool} {Q : Value → Shared → Prop} (X : K.In s.heap) (I : ObjM s.heap x dx C mA) (hg : PySem.W.plainGet K C name = true) (hh : PySem.W.hasDictIn K C = true)
    (ha : PySem.W.findIn K (.ref C) name = some none) (hv : mA name = some v) (hv' : PySem.W.handedIn v = true) (h : Q v { s with toks := s.toks + 1 }) :
    wpAny (model prog w) A (getAttr (.ref x) name expr) Q E s := by
  obtain ⟨od, J, hl⟩ := I.look
  exact PySem.W.get_value X J (PySem.W.plainGet_of hg).1 (PySem.W.findObj_own hh ha rfl (by rw [hl, hv])) hv' h

theorem set_map {ns : List Str} {Q : Unit → Shared → Prop} (X : K.In s.heap) (I : ObjM s.heap x dx C mA)
    (hs : PySem.W.findIn K (.ref C) "__setattr__" = some (some (.builtin "object.__setattr__"))) (hp : PySem.W.plainOver K C = true) (ht : PySem.W.takerIn K C name = some none) (hh : PySem.W.hasDictIn K C = true)
    (hw : PySem.Within mA ns) (hsz : ns.length ≤ sizeLine)
    (h : ∀ h', ObjM h' x dx C (fun y => if y = name then some v else mA y) → Heap.SameBut dx s.heap h' → Q () { s with heap := h', toks := s.toks + 2 }) :
    wpAny (model prog w) A (setAttr (.ref x) name v) Q E s := by
  obtain ⟨od, J, hl⟩ := I.look
  refine PySem.W.set_plain X J hs (PySem.W.osa_open (s := { s with toks := s.toks + 1 }) (r := none) X J hp ht fun b => ?_)
  obtain ⟨cd, hc, hd'⟩ := PySem.W.any_some hh
  have hx : s.heap.get? x = some ⟨.ref C, some dx, .plain, #[]⟩ := I.obj
  refine wpAny_bind (wpAny_pure (wpAny_bind (wpAny_bind (wpAny_loadPart hx (wpAny_bind (PySem.W.Looks.here (s := { s with toks := s.toks + 1 }) (PySem.W.looks_clsIn X hc) ?_))))))
  rw [hd']
  refine wpAny_pure (a := some dx) (wpAny_bind (wpAny_pure (wpAny_bind ?_)))
  refine wpAny_nsSet1 (s := { s with toks := s.toks + 1 }) I.ns fun h' hn2 hs2 => ?_
  obtain ⟨oD, esD, epD, hoD, hdD, hcD⟩ := hn2.count (PySem.Within.cons name v hw)
  refine wpAny_bind (wpAny_lookBehind hoD (by rw [hdD]; exact pastItsLine_dict (Nat.le_trans hcD (by rw [List.length_cons]; omega))) ?_)
  exact wpAny_pure (h _ ⟨(hs2.2 _ (Ne.symm I.ne)).trans I.obj, hn2, I.ne⟩ hs2)

theorem make_map {R : Result → Shared → Prop} {vs : List Value} {kw : List (Str × Value)} (X : K.In s.heap) (hm : PySem.W.makesIn K C = true)
    (hi : PySem.W.findIn K (.ref C) "__init__" = some (some (.ref f))) (hf : PySem.W.typeIn K (.ref f) = some (.type "function"))
    (h : codeAny (model prog w) (A.under (.builtin "type.__call__" ⟨.ref C :: vs, kw⟩)) (.call (.ref f) ⟨.ref (s.heap.objs.size + 1) :: vs, kw⟩) (PySem.W.InitBack (s.heap.objs.size + 1) R)
      { s with heap := (s.heap.push PySem.W.emptyDict).push (PySem.W.instObj C s.heap.objs.size) }) :
    codeAny (model prog w) A (.call (.ref C) ⟨vs, kw⟩) R s := by
  obtain ⟨hh, g, d, t, os⟩ := s
  exact PySem.W.make_core (PySem.W.makes_of X hm) (PySem.W.looks_findIn X hi) (fun self => PySem.W.bind_fn X self hf) (.inl rfl) h
end
noncomputable def putF (f : Str) (v : V) : List (Str × V) → List (Str × V)
  | [] => [(f, v)]
  | (g, x) :: r => if g = f then (g, v) :: r else (g, x) :: putF f v r
theorem lookup_putF (f g : Str) (v : V) : ∀ fs : List (Str × V), (putF f v fs).lookup g = if g = f then some v else fs.lookup g
  | [] => by
    show List.lookup g [(f, v)] = _
    by_cases h : g = f
    · have hb : (g == f) = true := beq_iff_eq.mpr h
      simp only [List.lookup, hb, if_pos h]
    · have hb : (g == f) = false := beq_eq_false_iff_ne.mpr h
      simp only [List.lookup, hb, if_neg h]
  | (k, x) :: r => by
    have ih := lookup_putF f g v r
    rw [show putF f v ((k, x) :: r) = (if k = f then (k, v) :: r else (k, x) :: putF f v r) from rfl]
    by_cases hk : k = f
    · rw [if_pos hk]
      by_cases h : g = k
      · have hb : (g == k) = true := beq_iff_eq.mpr h
        simp only [List.lookup, hb, if_pos (h.trans hk)]
      · have hb : (g == k) = false := beq_eq_false_iff_ne.mpr h
        simp only [List.lookup, hb, if_neg (fun e : g = f => h (e.trans hk.symm))]
    · rw [if_neg hk]
      by_cases h : g = k
      · have hb : (g == k) = true := beq_iff_eq.mpr h
        simp only [List.lookup, hb, if_neg (fun e : g = f => hk (h.symm.trans e))]
      · have hb : (g == k) = false := beq_eq_false_iff_ne.mpr h
        simp only [List.lookup, hb]
        exact ih
theorem keys_putF (f : Str) (v : V) : ∀ fs : List (Str × V), f ∈ (putF f v fs).map (·.1) ∧ ∀ g, g ∈ fs.map (·.1) → g ∈ (putF f v fs).map (·.1)
  | [] => ⟨by simp [putF], fun g h => by simp at h⟩
  | (k, x) :: r => by
    obtain ⟨i1, i2⟩ := keys_putF f v r
    rw [show putF f v ((k, x) :: r) = (if k = f then (k, v) :: r else (k, x) :: putF f v r) from rfl]
    by_cases hk : k = f
    · rw [if_pos hk]
      subst hk
      exact ⟨by simp, fun g h => by simpa using h⟩
    · rw [if_neg hk]
      refine ⟨?_, fun g h => ?_⟩
      · rw [List.map_cons]
        exact List.mem_cons_of_mem _ i1
      · rw [List.map_cons] at h ⊢
        rcases List.mem_cons.mp h with e | e
        · exact List.mem_cons.mpr (.inl e)
        · exact List.mem_cons_of_mem _ (i2 g e)
theorem length_putF (f : Str) (v : V) : ∀ fs : List (Str × V), (putF f v fs).length ≤ fs.length + 1
  | [] => by simp [putF]
  | (k, x) :: r => by
    have ih := length_putF f v r
    rw [show putF f v ((k, x) :: r) = (if k = f then (k, v) :: r else (k, x) :: putF f v r) from rfl]
    by_cases hk : k = f
    · rw [if_pos hk, List.length_cons, List.length_cons]; omega
    · rw [if_neg hk, List.length_cons, List.length_cons]; omega

theorem RelO.some_of {v : V} {o : Option Value} (r : RelO (some v) o) : ∃ u, o = some u ∧ RelV v u := by
  cases o with
  | none => exact (show False from r).elim
  | some u => exact ⟨u, rfl, r⟩
theorem handed_of {v : V} {u : Value} (r : RelV v u) : PySem.W.handedIn u = true := by
  cases v with
  | non => cases (show u = Value.none from r); rfl
  | bl b => cases (show u = Value.bool b from r); rfl
  | int i => obtain ⟨t, e⟩ := (show ∃ t, u = Value.int i t from r); cases e; rfl
  | str x => obtain ⟨t, e⟩ := (show ∃ t, u = Value.str x t from r); cases e; rfl
  | byt b => obtain ⟨t, e⟩ := (show ∃ t, u = Value.bytes b t from r); cases e; rfl
  | flt b => obtain ⟨t, e⟩ := (show ∃ t, u = Value.float b t from r); cases e; rfl
  | ref a => cases (show u = Value.ref a from r); rfl
  | ty n => cases (show u = Value.type n from r); rfl

section
variable {P : Program} {w : World} {H H' : Hp} {h h' : Heap} {a C dx : Addr} {fs fs' : List (Str × V)}
theorem ins_get (hok : HOk P w H h) (e : H a = some (.ins C dx fs)) : ∃ mA, ObjM h a dx C mA ∧ (∀ f, RelO (fs.lookup f) (mA f)) ∧ PySem.Within mA (fs.map (·.1)) ∧ fs.length ≤ 1000 ∧ H dx = some (.own a) := by
  obtain ⟨d, z, ne, ob, mA, n, r, q⟩ := (show ObjOk P w H h a (.ins C dx fs) from hok a _ e)
  exact ⟨mA, ⟨ob, n, ne⟩, r, q, z, d⟩
end
structure Cls (K : PySem.W.Frag) (C : Addr) : Prop where
  pg : PySem.W.plainGet K C Str.empty = true
  hd : PySem.W.hasDictIn K C = true
  po : PySem.W.plainOver K C = true
  sa : PySem.W.findIn K (.ref C) "__setattr__" = some (some (.builtin "object.__setattr__"))
theorem Cls.get {K : PySem.W.Frag} {C : Addr} (c : Cls K C) (f : Str) : PySem.W.plainGet K C f = true := c.pg
noncomputable def NoAttr (K : PySem.W.Frag) (C : Addr) (f : Str) : Prop := PySem.W.findIn K (.ref C) f = some none
theorem NoAttr.taker {K : PySem.W.Frag} {C : Addr} {f : Str} (n : NoAttr K C f) : PySem.W.takerIn K C f = some none := by
  unfold PySem.W.takerIn
  rw [show PySem.W.findIn K (.ref C) f = some none from n]
  rfl
section
variable {X : Cx} {pins : List (Addr × Obj)} {σ : St} {H : Hp} {s : Shared} {a C dx : Addr} {fs : List (Str × V)} {f : Str} {v : V} {A : Around} {E : Value → Shared → Prop}
theorem getattr_ok {b : Bool} {Q : Value → Shared → Prop} (I : Inv X pins σ H s) (e : H a = some (.ins C dx fs)) (c : Cls X.K C) (n : NoAttr X.K C f) (l : fs.lookup f = some v)
    (h : ∀ u s', Inv X pins σ H s' → RelV v u → Q u s') : wpAny (model X.prog X.w) A (getAttr (.ref a) f b) Q E s := by
  obtain ⟨mA, O, r, _, _, _⟩ := ins_get I.hok e
  obtain ⟨u, hu, ru⟩ := RelO.some_of (v := v) (o := mA f) (by rw [← l]; exact r f)
  exact get_map I.kIn O (c.get f) c.hd n hu (handed_of ru) (h u _ (I.tok _) ru)

theorem setattr_ok {y : V} {u : Value} {Q : Unit → Shared → Prop} (I : Inv X pins σ H s) (e : H a = some (.ins C dx fs)) (c : Cls X.K C) (n : NoAttr X.K C f) (hl : fs.length < 1000) (ry : RelV y u)
    (h : ∀ s', Inv X pins σ (upd H a (.ins C dx (putF f y fs))) s' → Q () s') : wpAny (model X.prog X.w) A (setAttr (.ref a) f u) Q E s := by
  obtain ⟨mA, O, r, wi, _, ho⟩ := ins_get I.hok e
  have hz : (fs.map (·.1)).length ≤ sizeLine := by rw [List.length_map, sizeLine_eq]; omega
  refine set_map I.kIn O c.sa c.po n.taker c.hd wi hz fun h' O' sb => h _ ?_
  have hd : ∃ o, h'.get? dx = some o := let ⟨o, _, _, e', _⟩ := O'.ns; ⟨o, e'⟩
  refine I.write (x := a) (e := dx) (by rw [e]; exact True.intro) (.inr ho) (fun b q hb z => (sb.2 b hb).trans z) hd ?_
  refine ⟨by rw [upd_ne O.ne]; exact ho, ?_, O.ne, O'.obj, _, O'.ns, fun g => ?_, fun g hg => ?_⟩
  · have := length_putF f y fs; omega
  · show RelO ((putF f y fs).lookup g) (if g = f then some u else mA g)
    rw [lookup_putF]
    by_cases q : g = f
    · rw [if_pos q, if_pos q]; exact ry
    · rw [if_neg q, if_neg q]; exact r g
  · by_cases q : g = f
    · rw [q]; exact (keys_putF f y fs).1
    · refine (keys_putF f y fs).2 g (wi g fun z => hg ?_)
      show (if g = f then some u else mA g) = none
      rw [if_neg q]; exact z

theorem Inv.made (I : Inv X pins σ H s) : Inv X pins σ (upd (upd H s.heap.objs.size (.own (s.heap.objs.size + 1))) (s.heap.objs.size + 1) (.ins C s.heap.objs.size []))
    { s with heap := (s.heap.push PySem.W.emptyDict).push (PySem.W.instObj C s.heap.objs.size) } := by
  have e1 : (s.heap.push PySem.W.emptyDict).get? s.heap.objs.size = some PySem.W.emptyDict := Heap.get?_push_size s.heap rfl
  have e2 : ((s.heap.push PySem.W.emptyDict).push (PySem.W.instObj C s.heap.objs.size)).get? (s.heap.objs.size + 1) = some (PySem.W.instObj C s.heap.objs.size) := by
    have := Heap.get?_push_size (s.heap.push PySem.W.emptyDict) (o := PySem.W.instObj C s.heap.objs.size) rfl
    rwa [Heap.size_push] at this
  have e3 : (s.heap.push PySem.W.emptyDict).Ns s.heap.objs.size (fun _ => none) := ⟨PySem.W.emptyDict, #[], _, e1, rfl, (fun e he => absurd he (by simp)), fun _ => rfl⟩
  have I1 := I.laid (a := s.heap.objs.size) (o := .own (s.heap.objs.size + 1)) (h' := s.heap.push PySem.W.emptyDict) (t' := s.toks) (fun b u q => Heap.get?_push_of_some _ q) (Nat.le_refl _) ⟨_, e1⟩
  refine I1.laid (a := s.heap.objs.size + 1) (o := .ins C s.heap.objs.size []) (t' := s.toks) (fun b u q => Heap.get?_push_of_some _ q) (Nat.le_of_eq (Heap.size_push _ _)) ?_
  have ne : s.heap.objs.size ≠ s.heap.objs.size + 1 := Nat.ne_of_lt (Nat.lt_succ_self _)
  refine ⟨by rw [upd_ne ne, upd_same], Nat.zero_le _, ne, e2, fun _ => none, (Heap.Ns1.of_empty e3).at fun o q => Heap.get?_push_of_some _ q, fun _ => True.intro, fun y hy => absurd rfl hy⟩

theorem attr_of {prog : Program} {w : World} {env : Env} {e : Expr} {f : Str} {pos : Pos} {s : Shared} {Q : Value → Shared → Prop} (hb : attributeBase e f env (eval e env) = eval e env)
    (h : wpAny (model prog w) A (eval e env) (fun o s₁ => wpAny (model prog w) A (getAttr o f true) Q E s₁) E s) : wpAny (model prog w) A (eval (.Attribute e f pos) env) Q E s :=
  Attribute_any_ h (by rw [arm_eval_Attribute, hb])
end
noncomputable def tFld (K : PySem.W.Frag) (ta : TE) (f : Str) : TE := fun σ H Q => ta σ H fun x H1 => ∃ a C dx fs v, x = .ref a ∧ H1 a = some (.ins C dx fs) ∧ Cls K C ∧ NoAttr K C f ∧ fs.lookup f = some v ∧ Q v H1
noncomputable def sFld (K : PySem.W.Frag) (ta tv : TE) (f : Str) : TS := fun D σ H => tv σ H fun y H1 => ta σ H1 fun x H2 => ∃ a C dx fs, x = .ref a ∧ H2 a = some (.ins C dx fs) ∧ Cls K C ∧ NoAttr K C f ∧ fs.length < 1000 ∧
  D.nx σ (upd H2 a (.ins C dx (putF f y fs)))
noncomputable def InOp (X : Cx) (op : Operator) (rd : V → V → Hp → VK → Prop) : Prop :=
  ∀ (pins : List (Addr × Obj)) (s : Shared) (σ : St) (H : Hp) (x y : V) (u v : Value) (Q : VK), Inv X pins σ H s → RelV x u → RelV y v → rd x y H Q → wpAny (model X.prog X.w) X.A (inplaceOp op u v) (EP X pins σ Q) X.xe s
noncomputable def sFldAug (K : PySem.W.Frag) (ta tv : TE) (rd : V → V → Hp → VK → Prop) (f : Str) : TS := fun D σ H => ta σ H fun x H1 => ∃ a C dx fs v, x = .ref a ∧ H1 a = some (.ins C dx fs) ∧ Cls K C ∧ NoAttr K C f ∧ fs.lookup f = some v ∧
  tv σ H1 fun y H2 => rd v y H2 fun z H3 => ∃ dx' fs', H3 a = some (.ins C dx' fs') ∧ fs'.length < 1000 ∧ D.nx σ (upd H3 a (.ins C dx' (putF f z fs')))

section
variable {X : Cx} {o e value : Expr} {f : Str} {pos pos' tpos : Pos} {ta tv : TE}
theorem pe_fld (he : PE X e ta) (hb : attributeBase e f X.env (eval e X.env) = eval e X.env) : PE X (.Attribute e f pos) (tFld X.K ta f) := by
  intro pins s σ H Q I h
  refine attr_of hb (thn (he pins s σ H _ I h) fun u s1 ⟨x, H1, I1, rx, a, C, dx, fs, v, ex, ea, c, n, l, q⟩ => ?_)
  subst ex
  obtain rfl : u = Value.ref a := rx
  exact getattr_ok I1 ea c n l fun u' s2 I2 ru => ⟨v, H1, I2, ru, q⟩
theorem ps_fld (ha : PE X o ta) (hv : PE X value tv) (hs : swapsWith value (some (.Attribute o f pos')) pos.line X.env = pure false) : PS X (.Assign [.Attribute o f pos'] value pos) (sFld X.K ta tv f) := by
  intro pins s σ H D I h
  refine plainObj_wpAny_Assign_Attribute (thn (hv pins s σ H _ I h) fun u s1 ⟨y, H1, I1, ry, q⟩ => thn (ha pins s1 σ H1 _ I1 q) fun ov s2 ⟨x, H2, I2, rx, a, C, dx, fs, ex, ea, c, n, l, q2⟩ => ?_) hs
  subst ex
  obtain rfl : ov = Value.ref a := rx
  exact setattr_ok I2 ea c n l ry fun s3 I3 => ⟨σ, _, I3, q2⟩
theorem ps_fldaug {op : Operator} {rd : V → V → Hp → VK → Prop} (ha : PE X o ta) (hv : PE X value tv) (hop : InOp X op rd) : PS X (.AugAssign (.Attribute o f tpos) op value pos) (sFldAug X.K ta tv rd f) := by
  intro pins s σ H D I h
  refine wpAny_AugAssign_AttributeAny (thn (ha pins s σ H _ I h) fun ov s1 ⟨x, H1, I1, rx, a, C, dx, fs, v, ex, ea, c, n, l, q⟩ => ?_)
  subst ex
  obtain rfl : ov = Value.ref a := rx
  refine getattr_ok I1 ea c n l fun u s2 I2 ru => thn (hv pins s2 σ H1 _ I2 q) fun w3 s3 ⟨y, H2, I3, ry, q3⟩ => thn (hop pins s3 σ H2 v y u w3 _ I3 ru ry q3) fun w4 s4 ⟨z, H3, I4, rz, dx', fs', ea', l', q4⟩ => ?_
  exact setattr_ok I4 ea' c n l' rz fun s5 I5 => ⟨σ, _, I5, q4⟩
noncomputable def rAdd : V → V → Hp → VK → Prop := fun x y H Q => ∃ i j, x = .int i ∧ y = .int j ∧ Q (.int (i + j)) H
noncomputable def rSub : V → V → Hp → VK → Prop := fun x y H Q => ∃ i j, x = .int i ∧ y = .int j ∧ Q (.int (i - j)) H
theorem in_add : InOp X .Add rAdd := by
  rintro pins s σ H x y u v Q I rx ry ⟨i, j, rfl, rfl, q⟩
  obtain ⟨t, rfl⟩ := (show ∃ t, u = Value.int i t from rx)
  obtain ⟨t', rfl⟩ := (show ∃ t', v = Value.int j t' from ry)
  exact PyProof.Rows.iadd_int ⟨.int (i + j), H, I.tok _, ⟨_, rfl⟩, q⟩
theorem in_sub : InOp X .Sub rSub := by
  rintro pins s σ H x y u v Q I rx ry ⟨i, j, rfl, rfl, q⟩
  obtain ⟨t, rfl⟩ := (show ∃ t, u = Value.int i t from rx)
  obtain ⟨t', rfl⟩ := (show ∃ t', v = Value.int j t' from ry)
  exact PyProof.Rows.isub_int ⟨.int (i - j), H, I.tok _, ⟨_, rfl⟩, q⟩

end
section
variable {X : Cx} {pins : List (Addr × Obj)} {σ : St} {H : Hp} {s : Shared} {A : Around} {E : Value → Shared → Prop} {Q : Value → Shared → Prop} {c : Value} {b : Bool}
end
end L2
namespace L2
open PySem PySem.Spec PyProof.Rows
structure Room (k : Nat) (A : Around) : Prop where
  hd : A.handled = none
  dp : A.depth + 3 * k + 5 < recursionLimit
  un : A.units + 16 * k + 200 < cLine
theorem Room.mono {j k : Nat} {A : Around} (r : Room k A) (h : j ≤ k) : Room j A := ⟨r.hd, by have := r.dp; omega, by have := r.un; omega⟩
theorem Room.deeper {k : Nat} {A : Around} (r : Room (k + 1) A) (env : Env) : Room k (A.deeper env) :=
  ⟨r.hd, by have := r.dp; show A.depth + 1 + 3 * k + 5 < _; omega, by have := r.un; show A.units + 3 + 16 * k + 200 < _; omega⟩
theorem make_depth {A : Around} {C : Addr} {us : List Value} {kw : List (Str × Value)} : (A.under (.builtin "type.__call__" ⟨.ref C :: us, kw⟩)).depth = A.depth + 1 := by
  first | rfl | simp [Around.under, Code.weight, Code.isCreation, Code.isGuard, Code.isCaller, Code.frames, Code.isFrame, guardIds]
theorem make_units {A : Around} {C : Addr} {us : List Value} {kw : List (Str × Value)} : (A.under (.builtin "type.__call__" ⟨.ref C :: us, kw⟩)).units = A.units + 1 := by
  first | rfl | simp [Around.under, Code.cUnits, Code.frames, Code.isFrame]
theorem Room.make {k : Nat} {A : Around} (r : Room (k + 1) A) (C : Addr) (us : List Value) (kw : List (Str × Value)) : Room k (A.under (.builtin "type.__call__" ⟨.ref C :: us, kw⟩)) :=
  ⟨r.hd, by have := r.dp; rw [make_depth]; omega, by have := r.un; rw [make_units]; omega⟩
theorem Room.depth {k : Nat} {A : Around} (r : Room k A) : A.depth < recursionLimit := by have := r.dp; omega
theorem Room.units {k : Nat} {A : Around} (r : Room k A) : A.units + 64 < cLine := by have := r.un; omega
noncomputable def tNil : TA := fun _ H Q => Q [] H
noncomputable def tCons (ta : TE) (tr : TA) : TA := fun σ H Q => ta σ H fun x H1 => tr σ H1 fun xs H2 => Q (x :: xs) H2
section
variable {X : Cx} {e : Expr} {es : List Expr} {te : TE} {t : TA} {pos : Pos}
theorem pa_nil : PA X [] tNil := fun _ _ _ _ H Q I h => Calls.spliced_nil ⟨[], H, I, .nil, h⟩
theorem pa_cons (ha : PE X e te) (hr : PA X es t) (hs : starEach (e :: es) X.env = (false, eval e X.env) :: starEach es X.env := by rfl) : PA X (e :: es) (tCons te t) := by
  intro pos pins s σ H Q I h
  rw [hs]
  show wpAny _ _ (spliced ((false, eval e X.env) :: backTo pos (starEach es X.env))) _ _ s
  refine Calls.spliced_cons (thn (ha pins s σ H _ I h) fun u s1 ⟨x, H1, I1, r1, q1⟩ => ?_)
  exact thn (hr pos pins s1 σ H1 _ I1 q1) fun us s2 ⟨xs, H2, I2, r2, q2⟩ => ⟨x :: xs, H2, I2, .cons r1 r2, q2⟩

noncomputable def tTup (t : TA) : TE := fun σ H Q => t σ H fun xs H1 => xs.length ≤ sizeLine ∧ ∀ p, H1 p = none → Q (.ref p) (upd H1 p (.tup xs))
noncomputable def tLst (t : TA) : TE := fun σ H Q => t σ H fun xs H1 => xs.length ≤ sizeLine ∧ ∀ p, H1 p = none → Q (.ref p) (upd H1 p (.lst xs))
theorem pe_tup {x1} (h : PA X es t) : PE X (.Tuple es x1 pos) (tTup t) := by
  intro pins s σ H Q I hq
  refine wpAny_Tuple_spliced (thn (h pos pins s σ H _ I hq) fun us s1 ⟨xs, H1, I1, r, z, q⟩ => ⟨by rw [← r.length]; exact z, ?_⟩)
  have hf : H1 s1.heap.objs.size = none := I1.hok.fresh (Nat.le_refl _)
  refine ⟨.ref s1.heap.objs.size, upd H1 s1.heap.objs.size (.tup xs), I1.laid (t' := s1.toks) (fun b u e => Heap.get?_push_of_some _ e) (Nat.le_refl _) ?_, rfl, q _ hf⟩
  exact ⟨z, us, r, ⟨_, Heap.get?_push_size _ rfl, rfl, _, rfl⟩⟩
theorem pe_lst (h : PA X es t) : PE X (.List es pos) (tLst t) := by
  intro pins s σ H Q I hq
  refine wpAny_List_spliced (thn (h pos pins s σ H _ I hq) fun us s1 ⟨xs, H1, I1, r, z, q⟩ => ⟨by rw [← r.length]; exact z, ?_⟩)
  have hf : H1 s1.heap.objs.size = none := I1.hok.fresh (Nat.le_refl _)
  refine ⟨.ref s1.heap.objs.size, upd H1 s1.heap.objs.size (.lst xs), I1.laid (t' := s1.toks) (fun b u e => Heap.get?_push_of_some _ e) (Nat.le_refl _) ?_, rfl, q _ hf⟩
  exact ⟨z, us, 0, r, Heap.get?_push_size _ rfl⟩
end
noncomputable abbrev Sp := List V → Hp → VK → XK → Prop
noncomputable abbrev CXT := List Env → Hp → Shared → XK → Value → Shared → Prop

structure Env0 (P : Program) (w : World) (K : PySem.W.Frag) (mg : Str → Option Value) (base : Heap) (A : Around) (outer : List Env) (s : Shared) (H : Hp) : Prop where
  frames : A.frames = some outer
  mod : Mod K mg base
  bs : ∀ b o, base.get? b = some o → s.heap.get? b = some o ∧ H b = none
  bsz : base.objs.size ≤ s.heap.objs.size
  funs : s.heap.FunFrames base outer
  frf : ∀ b ∈ frs outer, H b = none
  hok : HOk P w H s.heap
  bare : AllBare s.gens
noncomputable def CE (outer : List Env) (P : Program) (w : World) (H : Hp) (s : Shared) (Q : VK) (u : Value) (s' : Shared) : Prop :=
  ∃ v H', s'.os = s.os ∧ AllBare s'.gens ∧ Un (frs outer) [] H H' s.heap s'.heap ∧ HOk P w H' s'.heap ∧ RelV v u ∧ Q v H'
noncomputable def CR (CX : CXT) (outer : List Env) (P : Program) (w : World) (H : Hp) (s : Shared) (Q : VK) (E : XK) (r : Result) (s' : Shared) : Prop :=
  match r with
  | .ok (.ret u) => CE outer P w H s Q u s'
  | .ok _ => False
  | .error e => CX outer H s E e s'
structure FnOk (P : Program) (w : World) (K : PySem.W.Frag) (mg : Str → Option Value) (base : Heap) (CX : CXT) (k : Nat) (f : Addr) (fd : FuncData) (ps : List Str) (sp : Sp) : Prop where
  len : ∀ vs H Q E, sp vs H Q E → vs.length = ps.length
  run : ∀ (A : Around) (outer : List Env) (s : Shared) (H : Hp) (args : Args) (us : List Value) (vs : List V) (Q : VK) (E : XK), Room k A → Env0 P w K mg base A outer s H → BindsTo s fd args (ps.zip us) → Vals vs us → sp vs H Q E →
    codeAny (model P w) A (.call (.ref f) args) (CR CX outer P w H s Q E) s
theorem Env0.make {P : Program} {w : World} {K : PySem.W.Frag} {mg : Str → Option Value} {base : Heap} {A : Around} {outer : List Env} {s : Shared} {H : Hp} (e : Env0 P w K mg base A outer s H) (C : Addr) (us : List Value) (kw : List (Str × Value)) :
    Env0 P w K mg base (A.under (.builtin "type.__call__" ⟨.ref C :: us, kw⟩)) outer s H := ⟨by first | exact e.frames | (simpa [Around.under, Code.envs, Code.isFrame, pushEnvs] using e.frames), e.mod, e.bs, e.bsz, e.funs, e.frf, e.hok, e.bare⟩
section
variable {X : Cx} {pins : List (Addr × Obj)} {σ : St} {H : Hp} {s s' : Shared}
theorem Inv.env0 (I : Inv X pins σ H s) : Env0 X.prog X.w X.K X.mg X.base X.A X.stack s H :=
  ⟨I.ok.frames, I.ok.mod, I.bs, Nat.le_trans I.ok.bsz I.sz, I.stack, I.stkFree, I.hok, I.bare⟩
theorem Inv.after {Q : VK} {u : Value} (I : Inv X pins σ H s) (h : CE X.stack X.prog X.w H s Q u s') : EP X pins σ Q u s' := by
  obtain ⟨v, H', os, bare, un, hok, r, q⟩ := h
  obtain ⟨hh, g, d, t, os'⟩ := s'
  obtain rfl : os' = s.os := os
  exact ⟨v, H', I.call (h' := hh) (g' := g) (d' := d) (t' := t) (ch := []) un hok bare (fun b z => absurd z (by simp)), r, q⟩
end
noncomputable def tCall (sp : Sp) (dvs : List V) (E : XK) (t : TA) : TE := fun σ H Q => t σ H fun vs H1 => sp (vs ++ dvs) H1 Q E
noncomputable def tMake (C : Addr) (sp : Sp) (dvs : List V) (E : XK) (t : TA) : TE := fun σ H Q => t σ H fun vs H1 => ∀ x dx, H1 x = none → H1 dx = none → dx ≠ x →
  sp (.ref x :: (vs ++ dvs)) (upd (upd H1 dx (.own x)) x (.ins C dx [])) (fun v H2 => v = .non ∧ Q (.ref x) H2) E

noncomputable def Binds (K : PySem.W.Frag) (fd : FuncData) (ps : List Str) (ds : List Value) : Prop :=
  ∀ (s : Shared) (us : List Value), K.In s.heap → (us ++ ds).length = ps.length → BindsTo s fd ⟨us, []⟩ (ps.zip (us ++ ds))
theorem Binds.all {K : PySem.W.Frag} {fd : FuncData} {ps : List Str} (h : ∀ us : List Value, us.length = ps.length → bindArgs fd ⟨us, []⟩ = pure (ps.zip us)) : Binds K fd ps [] := fun s us _ hl => by
  rw [List.append_nil] at hl ⊢
  exact .of_eq (h us hl)

noncomputable def Passes (CX : CXT) (X : Cx) (E : XK) : Prop := ∀ (pins : List (Addr × Obj)) (σ : St) (H : Hp) (s : Shared) (e : Value) (s' : Shared), Inv X pins σ H s → CX X.stack H s E e s' → X.xe e s'

section
variable {X : Cx} {CX : CXT} {k : Nat} {f C : Addr} {fd : FuncData} {ps : List Str} {sp : Sp} {dvs : List V} {ds : List Value} {E : XK} {x m : Str} {p pos apos : Pos} {e o : Expr} {es : List Expr} {ta : TE} {t : TA}
theorem run_fn {pins : List (Addr × Obj)} {σ : St} {H : Hp} {s : Shared} {Q : VK} {us : List Value} {vs : List V} (F : FnOk X.prog X.w X.K X.mg X.base CX k f fd ps sp) (hr : Room k X.A) (hb : Binds X.K fd ps ds) (hd : Vals dvs ds) (hx : Passes CX X E)
    (I : Inv X pins σ H s) (r : Vals vs us) (h : sp (vs ++ dvs) H Q E) : wpAny (model X.prog X.w) X.A (call (.ref f) us) (EP X pins σ Q) X.xe s := by
  have r2 : Vals (vs ++ dvs) (us ++ ds) := r.append hd
  have hl : (us ++ ds).length = ps.length := by rw [← r2.length]; exact F.len _ _ _ _ h
  refine wpAny_call (codeAny_mono (F.run X.A X.stack s H ⟨us, []⟩ (us ++ ds) (vs ++ dvs) Q E hr I.env0 (hb s us I.kIn hl) r2 h) fun r s' hq => ?_)
  cases r with
  | error e => exact hx pins σ H s e s' I hq
  | ok fl =>
    cases fl with
    | ret u => exact I.after hq
    | next => exact False.elim hq
    | brk => exact False.elim hq
    | cont => exact False.elim hq

theorem pe_call (F : FnOk X.prog X.w X.K X.mg X.base CX k f fd ps sp) (hr : Room k X.A) (hg : Gl X x) (hm : X.mg x = some (.ref f)) (hk : PySem.W.keepIn X.K (.ref f) = true) (hb : Binds X.K fd ps ds) (hd : Vals dvs ds) (hx : Passes CX X E)
    (ha : PA X (e :: es) t) (hdb : (x == ("__debug__" : Str)) = false := by decide) (he : starEach (e :: es) X.env = (false, eval e X.env) :: starEach es X.env := by rfl) (hpl : (backTo pos (starEach es X.env)).any (·.1) = false := by rfl) :
    PE X (.Call (.Name x p) (e :: es) [] pos) (tCall sp dvs E t) := by
  intro pins s σ H Q I h
  refine wpAny_Call_Name_kw (ld_glob I hg hm ?_ hdb)
  refine PySem.W.callWith_K (h₀ := X.base) I.ok.mod.kin hk (thn (ha pos pins s σ H _ I h) fun us s1 ⟨vs, H1, I1, r, q⟩ => ⟨I1.kIn, ?_⟩) he hpl
  exact run_fn F hr hb hd hx I1 r q
structure Mk (K : PySem.W.Frag) (C f : Addr) : Prop where
  makes : PySem.W.makesIn K C = true
  init : PySem.W.findIn K (.ref C) "__init__" = some (some (.ref f))
  fn : PySem.W.isFn K (.ref f) = true
  kp : PySem.W.keepIn K (.ref C) = true

theorem run_make {pins : List (Addr × Obj)} {σ : St} {H : Hp} {s : Shared} {Q : VK} {us : List Value} {vs : List V} (M : Mk X.K C f) (F : FnOk X.prog X.w X.K X.mg X.base CX k f fd ps sp) (hr : Room (k + 1) X.A) (hb : Binds X.K fd ps ds) (hd : Vals dvs ds)
    (hx : Passes CX X E) (I : Inv X pins σ H s) (r : Vals vs us)
    (h : ∀ x dx, H x = none → H dx = none → dx ≠ x → sp (.ref x :: (vs ++ dvs)) (upd (upd H dx (.own x)) x (.ins C dx [])) (fun v H2 => v = .non ∧ Q (.ref x) H2) E) :
    wpAny (model X.prog X.w) X.A (call (.ref C) us) (EP X pins σ Q) X.xe s := by
  have hq := h (s.heap.objs.size + 1) s.heap.objs.size (I.hok.fresh (Nat.le_succ _)) (I.hok.fresh (Nat.le_refl _)) (Nat.ne_of_lt (Nat.lt_succ_self _))
  have I2 := Inv.made (C := C) I
  have r2 : Vals (V.ref (s.heap.objs.size + 1) :: (vs ++ dvs)) (Value.ref (s.heap.objs.size + 1) :: (us ++ ds)) := .cons rfl (r.append hd)
  have hl : (Value.ref (s.heap.objs.size + 1) :: us ++ ds).length = ps.length := by
    have e := r2.length
    rw [F.len _ _ _ _ hq] at e
    exact e.symm
  refine wpAny_call (make_map (f := f) I.kIn M.makes M.init (beq_iff_eq.mp M.fn) (codeAny_mono (F.run _ X.stack _ _ ⟨Value.ref (s.heap.objs.size + 1) :: us, []⟩ (Value.ref (s.heap.objs.size + 1) :: (us ++ ds)) _ _ E (hr.make C us [])
    (I2.env0.make C us []) (hb _ (Value.ref (s.heap.objs.size + 1) :: us) I2.kIn hl) r2 hq) fun r s' hq' => ?_))
  cases r with
  | error e => exact hx pins σ _ _ e s' I2 hq'
  | ok fl =>
    cases fl with
    | ret u =>
      obtain ⟨v, H', I3, rv, ev, q3⟩ := I2.after hq'
      subst ev
      exact ⟨rv, ⟨V.ref (s.heap.objs.size + 1), H', I3, rfl, q3⟩⟩
    | next => exact False.elim hq'
    | brk => exact False.elim hq'
    | cont => exact False.elim hq'
theorem pe_make (M : Mk X.K C f) (F : FnOk X.prog X.w X.K X.mg X.base CX k f fd ps sp) (hr : Room (k + 1) X.A) (hg : Gl X x) (hm : X.mg x = some (.ref C)) (hb : Binds X.K fd ps ds) (hd : Vals dvs ds) (hx : Passes CX X E)
    (ha : PA X (e :: es) t) (hdb : (x == ("__debug__" : Str)) = false := by decide) (he : starEach (e :: es) X.env = (false, eval e X.env) :: starEach es X.env := by rfl) (hpl : (backTo pos (starEach es X.env)).any (·.1) = false := by rfl) :
    PE X (.Call (.Name x p) (e :: es) [] pos) (tMake C sp dvs E t) := by
  intro pins s σ H Q I h
  refine wpAny_Call_Name_kw (ld_glob I hg hm ?_ hdb)
  refine PySem.W.callWith_K (h₀ := X.base) I.ok.mod.kin M.kp (thn (ha pos pins s σ H _ I h) fun us s1 ⟨vs, H1, I1, r, q⟩ => ⟨I1.kIn, ?_⟩) he hpl
  exact run_make M F hr hb hd hx I1 r q
end
section
variable {X : Cx} {CX : CXT} {k : Nat} {f C : Addr} {fd : FuncData} {ps ks : List Str} {sp : Sp} {E : XK} {x m : Str} {p pos apos kpos : Pos} {e o : Expr} {es : List Expr} {kws : List Keyword} {te ta : TE} {t tk : TA} {nm : Option Str}
variable {g : List Value → List Value → List Value} {gV : List V → List V → List V}
end
structure FnScope (N P : List Str) (sc : Scope) : Prop where
  kind : sc.kind = .function
  co : sc.isCoroutine = false
  gen : sc.isGenerator = false
  nd : N.Nodup
  pre : N.take P.length = P
  par : ∀ x ∈ P, sc.names.lookup x = some .local ∨ sc.names.lookup x = some .cell
  nofree : ∀ y ∈ sc.names, y.2 ≠ .free

theorem bindL_out {kindOf : Str → Option NameKind} {x : Str} : ∀ {binds : List (Str × Value)} {m : Str → Option Value}, (∀ v, (x, v) ∉ binds) → bindL kindOf binds m x = m x
  | [], _, _ => rfl
  | (n, v) :: r, m, h => by
    unfold bindL
    rw [bindL_out fun w hw => h w (List.mem_cons_of_mem _ hw)]
    split
    · have : x ≠ n := by rintro rfl; exact h v List.mem_cons_self
      simp [this]
    · rfl
theorem bindC_out {kindOf : Str → Option NameKind} {x : Str} : ∀ {binds : List (Str × Value)} {m : Str → Option Value}, (∀ v, (x, v) ∉ binds) → bindC kindOf binds m x = m x
  | [], _, _ => rfl
  | (n, v) :: r, m, h => by
    unfold bindC
    rw [bindC_out fun w hw => h w (List.mem_cons_of_mem _ hw)]
    split
    · rfl
    · have : x ≠ n := by rintro rfl; exact h v List.mem_cons_self
      simp [this]
theorem bindL_get {kindOf : Str → Option NameKind} {x : Str} {v : Value} : ∀ {P : List Str} {vs : List Value} {i : Nat} {m : Str → Option Value}, P.Nodup → P[i]? = some x → vs[i]? = some v → kindOf x = some .local →
    bindL kindOf (P.zip vs) m x = some v
  | [], _, _, _, _, h, _, _ => by simp at h
  | _ :: _, [], _, _, _, _, h, _ => by simp at h
  | p :: P, w :: vs, 0, m, nd, h1, h2, hk => by
    simp at h1 h2; subst h1; subst h2
    show bindL kindOf ((p, w) :: P.zip vs) m p = _
    unfold bindL
    rw [bindL_out fun v hv => (List.nodup_cons.mp nd).1 (List.of_mem_zip hv).1, if_pos hk]
    simp
  | p :: P, w :: vs, i + 1, m, nd, h1, h2, hk => by
    show bindL kindOf ((p, w) :: P.zip vs) m x = _
    unfold bindL
    exact bindL_get (i := i) (List.nodup_cons.mp nd).2 (by simpa using h1) (by simpa using h2) hk
theorem bindC_get {kindOf : Str → Option NameKind} {x : Str} {v : Value} : ∀ {P : List Str} {vs : List Value} {i : Nat} {m : Str → Option Value}, P.Nodup → P[i]? = some x → vs[i]? = some v → kindOf x ≠ some .local →
    bindC kindOf (P.zip vs) m x = some v
  | [], _, _, _, _, h, _, _ => by simp at h
  | _ :: _, [], _, _, _, _, h, _ => by simp at h
  | p :: P, w :: vs, 0, m, nd, h1, h2, hk => by
    simp at h1 h2; subst h1; subst h2
    show bindC kindOf ((p, w) :: P.zip vs) m p = _
    unfold bindC
    rw [bindC_out fun v hv => (List.nodup_cons.mp nd).1 (List.of_mem_zip hv).1, if_neg hk]
    simp
  | p :: P, w :: vs, i + 1, m, nd, h1, h2, hk => by
    show bindC kindOf ((p, w) :: P.zip vs) m x = _
    unfold bindC
    exact bindC_get (i := i) (List.nodup_cons.mp nd).2 (by simpa using h1) (by simpa using h2) hk

noncomputable def start (N : List Str) (vs : List V) : St := vs.map some ++ List.replicate (N.length - vs.length) none

noncomputable def cxOf (CX : CXT) (P : Program) (w : World) (K : PySem.W.Frag) (mg : Str → Option Value) (base : Heap) (N : List Str) (qual : Str) (scope : Scope) (f : Addr) (cd : Value) (A : Around) (outer : List Env) (s : Shared) (H : Hp) (E : XK) : Cx where
  prog := P
  w := w
  K := K
  mg := mg
  base := base
  A := A.deeper (envOfC qual scope s.heap.objs.size f cd)
  N := N
  s_0 := s
  H_0 := H
  env := envOfC qual scope s.heap.objs.size f cd
  outer := outer
  stack := envOfC qual scope s.heap.objs.size f cd :: outer
  ex := []
  calm := true
  fn := fun _ => true
  pn := []
  xe := fun e s' => wpAny (model P w) (A.deeper (envOfC qual scope s.heap.objs.size f cd)) (leaving (envOfC qual scope s.heap.objs.size f cd) e) (fun _ s'' => CX outer H s E e s'') (fun e' s'' => CX outer H s E e' s'') s'

theorem cell_has {sc : Scope} {n : Nat} {x : Str} (h : sc.names.lookup x = some .cell) : ∃ c, (cellsFrom n sc.names []).lookup x = some c := by
  have q := PySem.W.cellsFrom_some sc.names n [] (.inl h)
  exact Option.isSome_iff_exists.mp q

theorem inv_start {CX : CXT} {P : Program} {w : World} {K : PySem.W.Frag} {mg : Str → Option Value} {base : Heap} {N ps : List Str} {qual : Str} {scope : Scope} {f : Addr} {cd : Value} {A : Around} {outer : List Env} {s s1 : Shared} {H : Hp} {E : XK} {us : List Value} {vs : List V}
    (S : FnScope N ps scope) (hd : A.handled = none) (e0 : Env0 P w K mg base A outer s H) (hl : vs.length = ps.length) (r : Vals vs us)
    (x : InCallC s s.heap.objs.size (bindL (envOfC qual scope s.heap.objs.size f cd).kindOf (ps.zip us) fun _ => none) (cellsFrom (s.heap.objs.size + 1) scope.names []) (bindC (envOfC qual scope s.heap.objs.size f cd).kindOf (ps.zip us) fun _ => none) s1) :
    Inv (cxOf CX P w K mg base N qual scope f cd A outer s H E) [] (start N vs) H s1 := by
  have hpl : ps.length ≤ N.length := by have := congrArg List.length S.pre; rw [List.length_take] at this; omega
  obtain ⟨h1, tk, rfl, hk⟩ := x.done
  have noA : ∀ b : Addr, b ∉ (cxOf CX P w K mg base N qual scope f cd A outer s H E).ex := fun b z => absurd (show b ∈ ([] : List Addr) from z) (by simp)
  refine ⟨⟨e0.mod, S.kind, rfl, rfl, Nat.le_refl _, fun y z c h1 h2 => ?_, fun y hy => ?_, fun y c _ h => ?_, fun _ => hd, Around.frames_deeper e0.frames, .inr ⟨rfl, rfl⟩, fun b z => absurd z (noA b), e0.bs, e0.bsz, fun b _ _ => noA b, fun b z => absurd z (noA b), e0.funs, e0.frf⟩,
    rfl, e0.bare, Un.kept hk, ⟨_, x.toInCall.ns, fun i y v h1 h2 h3 => ?_⟩, fun y c h => ⟨_, x.cell y c h⟩, e0.hok.fresh (Nat.le_refl _), fun y c h => ?_, fun p hp => absurd (show p ∈ ([] : List (Addr × Obj)) from hp) (by simp), e0.hok.kept hk, ?_⟩
  · exact name_of_addr x.apart (PySem.mem_of_lookup h1) (PySem.mem_of_lookup h2)
  · have hy : scope.names.lookup y = some .cell ∨ scope.names.lookup y = some .free := hy
    rcases hy with hy | hy
    · exact cell_has hy
    · exact absurd rfl (S.nofree _ (PySem.mem_of_lookup hy))
  · exact Nat.le_of_lt (x.above y c (PySem.mem_of_lookup h))
  · have hi : i < vs.length := by
      unfold start at h2
      by_cases hi : i < vs.length
      · exact hi
      · rw [List.getElem?_append_right (by simpa using hi)] at h2
        rw [List.getElem?_replicate] at h2
        split at h2 <;> cases h2
    have ha : vs[i]? = some v := by
      unfold start at h2
      rw [List.getElem?_append_left (by simpa using hi), List.getElem?_map] at h2
      cases e : vs[i]? with
      | none => rw [e] at h2; cases h2
      | some a => rw [e] at h2; cases h2; rfl
    obtain ⟨u, hu, rv⟩ := r.get ha
    have hp : ps[i]? = some y := by
      rw [← S.pre, List.getElem?_take_of_lt (by omega)]; exact h1
    have ndP : ps.Nodup := by rw [← S.pre]; exact S.nd.sublist (List.take_sublist _ _)
    refine ⟨u, rv, ?_⟩
    rcases S.par y (List.mem_of_getElem? hp) with k | k
    · exact .inl ⟨k, bindL_get ndP hp hu k⟩
    · obtain ⟨c, e⟩ := cell_has (n := s.heap.objs.size + 1) k
      refine .inr ⟨.inl k, c, e, ?_⟩
      have q := x.cell y c e
      rw [bindC_get ndP hp hu (by show scope.names.lookup y ≠ _; rw [k]; decide)] at q
      exact q
  · exact e0.hok.fresh (Nat.le_of_lt (x.above y c (PySem.mem_of_lookup h)))
  · unfold start
    show _ = N.length
    rw [List.length_append, List.length_map, List.length_replicate]
    omega

theorem fn_of {CX : CXT} {P : Program} {w : World} {K : PySem.W.Frag} {mg : Str → Option Value} {base : Heap} {k : Nat} {f : Addr} {name qual : Str} {params : Arguments} {body : List Stmt} {scope : Scope} {dV kV doc pm cdv ct oc : Value} {an od : Option Addr}
    {osl : Array (Option Value)} {N ps : List Str} {sp : Sp} (lk : K.lookup f = some ⟨oc, od, .func (PySem.W.fnOf name qual params body scope dV kV doc pm an cdv ct), osl⟩) (hcd : PySem.W.codeIn K cdv qual = true) (S : FnScope N ps scope)
    (len : ∀ vs H Q E, sp vs H Q E → vs.length = ps.length)
    (hbody : ∀ (A : Around) (outer : List Env) (s : Shared) (H : Hp) (vs : List V) (Q : VK) (E : XK), Room k (A.deeper (envOfC qual scope s.heap.objs.size f cdv)) → sp vs H Q E →
      ∃ t, PSs (cxOf CX P w K mg base N qual scope f cdv A outer s H E) body t ∧ t { nx := fun _ H' => Q .non H', rt := Q } (start N vs) H) :
    FnOk P w K mg base CX (k + 1) f (PySem.W.fnOf name qual params body scope dV kV doc pm an cdv ct) ps sp := by
  refine ⟨len, fun A outer s H args us vs Q E hr e0 hb r hsp => ?_⟩
  have hl := len _ _ _ _ hsp
  have KX : K.In s.heap := e0.mod.kin.keeps fun b o e => (e0.bs b o e).1
  have lim : s.heap.NoLimit := e0.mod.nolimit.keeps fun b o e => (e0.bs b o e).1
  have hkind : ∀ y ∈ ps.zip us, scope.names.lookup y.1 = some .local ∨ (scope.names.lookup y.1 = some .cell ∧ ((cellsFrom (s.heap.objs.size + 1) scope.names []).lookup y.1).isSome = true) := fun ⟨n, v⟩ hy => by
    rcases S.par n (List.of_mem_zip hy).1 with q | q
    · exact .inl q
    · exact .inr ⟨q, PySem.W.cellsFrom_some _ _ _ (.inl q)⟩
  refine codeAny_call_function hr.depth (KX _ _ lk) rfl S.co S.gen rfl (PySem.W.codeRec_of KX hcd) (hb _ _ _ _ ?_)
  refine wpAny_newFunctionEnv_cells S.kind hkind fun env he s1 x => ?_
  subst he
  refine ⟨lim.keeps x.toInCall.keep, codeAny_func ?_⟩
  obtain ⟨t, ht, hq⟩ := hbody A outer s H vs Q E (hr.deeper _) hsp
  have I : Inv (cxOf CX P w K mg base N qual scope f cdv A outer s H E) [] (start N vs) H s1 := inv_start S hr.hd e0 hl r x
  refine wpAny_mono (ht [] s1 (start N vs) H _ I hq) (fun fl s' hs => ?_) fun e s' hs => hs
  have fin : ∀ {σ' : St} {H' : Hp} {v : V} {u : Value}, Inv (cxOf CX P w K mg base N qual scope f cdv A outer s H E) [] σ' H' s' → RelV v u → Q v H' → CE outer P w H s Q u s' :=
    fun {σ' H' v u} J rv q => ⟨v, H', J.os, J.bare, J.base, J.hok, rv, q⟩
  cases fl with
  | ret u =>
    obtain ⟨v, σ', H', J, rv, q⟩ := hs
    exact fin J rv q
  | next =>
    obtain ⟨σ', H', J, q⟩ := hs
    exact fin (v := V.non) (u := Value.none) J rfl q
  | brk =>
    obtain ⟨_, _, _, q⟩ := hs
    exact False.elim q
  | cont =>
    obtain ⟨_, _, _, q⟩ := hs
    exact False.elim q
end L2
namespace L2
open PySem PySem.Spec PyProof.Rows
section
variable {X : Cx} {x : Str} {p pos : Pos} {e : Expr} {es : List Expr} {t : TA} {id T : String} {r : List V → Hp → VK → Prop}
noncomputable def tCB (r : List V → Hp → VK → Prop) (t : TA) : TE := fun σ H Q => t σ H fun vs H1 => r vs H1 Q
theorem pe_callB (hc : CallR X (.builtin id) r) (hg : Gl X x) (hm : X.mg x = none) (hv : bootBuiltins x = some (.builtin id)) (ha : PA X (e :: es) t) (hn : x ≠ "__name__" := by decide) (hdb : (x == ("__debug__" : Str)) = false := by decide)
    (he : starEach (e :: es) X.env = (false, eval e X.env) :: starEach es X.env := by rfl) (hpl : (backTo pos (starEach es X.env)).any (·.1) = false := by rfl) : PE X (.Call (.Name x p) (e :: es) [] pos) (tCB r t) := by
  intro pins s σ H Q I h
  refine wpAny_Call_Name_kw (ld_blt I hg hm hv ?_ hn hdb)
  exact PyProof.Rows.callWith_builtin1 (thn (ha pos pins s σ H _ I h) fun us s1 ⟨vs, H1, I1, r1, q1⟩ => hc pins s1 σ H1 vs us Q I1 r1 q1) he hpl
end
end L2
namespace HT
open PySem PyProof.Rows
section
open PySem.SeqAt
open PySem.AutoSeq1 (wpAny_loadPart')
open PySem.MeetsSeq PySem.MeetsSeq2 PySem.MeetsSeq3
end
section
variable {prog : Program} {w : World} {A : Around} {E : Value → Shared → Prop} {s : Shared}
noncomputable def sIx (n d : Nat) : Option Int → Nat
  | none => d
  | some v => if v < 0 then (v + (n : Int)).toNat else min v.toNat n
theorem sIx_none (n d : Nat) : sIx n d none = d := rfl
theorem sIx_nat (n d k : Nat) : sIx n d (some (k : Int)) = min k n := by
  show (if (k : Int) < 0 then ((k : Int) + (n : Int)).toNat else min (k : Int).toNat n) = min k n
  rw [if_neg (by omega), Int.toNat_natCast]
end
end HT
namespace L2
open PySem PySem.Spec PyProof.Rows
noncomputable abbrev TO := St → Hp → (Option Int → Hp → Prop) → Prop
noncomputable def PO (X : Cx) (e : Option Expr) (t : TO) : Prop :=
  ∀ (pins : List (Addr × Obj)) (s : Shared) (σ : St) (H : Hp) (Q : Option Int → Hp → Prop), Inv X pins σ H s → t σ H Q →
    wpAny (model X.prog X.w) X.A (evalPart e X.env) (fun u s' => ∃ o H', Inv X pins σ H' s' ∧ IsPart u o ∧ Q o H') X.xe s
noncomputable def tNoPart : TO := fun _ H Q => Q none H
noncomputable def tPart (t : TE) : TO := fun σ H Q => t σ H fun x H1 => ∃ i, x = .int i ∧ Q (some i) H1

section
variable {X : Cx} {e : Expr} {te : TE} {lo hi : Option Expr} {tl th : TO} {pos p2 : Pos}
theorem po_none : PO X none tNoPart := by
  intro pins s σ H Q I h
  rw [evalPart_none]
  exact wpAny_pure ⟨none, H, I, .none, h⟩
theorem po_some (h : PE X e te) : PO X (some e) (tPart te) := by
  intro pins s σ H Q I hw
  rw [evalPart_some]
  refine thn (h pins s σ H _ I hw) fun u s1 ⟨x, H1, I1, r1, q1⟩ => ?_
  obtain ⟨i, rfl, q⟩ := q1
  obtain ⟨t, rfl⟩ := r1
  exact ⟨some i, H1, I1, .int i t, q⟩

noncomputable def SlR (X : Cx) (r : V → Option Int → Option Int → Hp → VK → Prop) : Prop :=
  ∀ (pins : List (Addr × Obj)) (s : Shared) (σ : St) (H : Hp) (x : V) (v vl vu : Value) (lo hi : Option Int) (sl : Addr) (Q : VK), Inv X pins σ H s → RelV x v → s.heap.IsSliceOf sl vl vu .none → IsPart vl lo → IsPart vu hi → r x lo hi H Q →
    ∃ T id, typeLookup (.type T) "__getitem__" = pure (some (.builtin id)) ∧ s.TypeIs v T ∧ wpAny (model X.prog X.w) X.A (getItem v (.ref sl)) (EP X pins σ Q) X.xe s
noncomputable def tSl (r : V → Option Int → Option Int → Hp → VK → Prop) (te : TE) (tl th : TO) : TE := fun σ H Q => te σ H fun x H1 => tl σ H1 fun l H2 => th σ H2 fun u H3 => r x l u H3 Q
theorem pe_slice {r : V → Option Int → Option Int → Hp → VK → Prop} (hr : SlR X r) (he : PE X e te) (hl : PO X lo tl) (hu : PO X hi th) : PE X (.Subscript e (.Slice lo hi none p2) pos) (tSl r te tl th) := by
  intro pins s σ H Q I h
  refine Subscript_ (thn (he pins s σ H _ I h) fun v s1 ⟨x, H1, I1, r1, q1⟩ => ?_)
  refine wpAny_Slice (thn (hl pins s1 σ H1 _ I1 q1) fun vl s2 ⟨l, H2, I2, pl, q2⟩ => thn (hu pins s2 σ H2 _ I2 q2) fun vu s3 ⟨u, H3, I3, pu, q3⟩ => ?_)
  rw [evalPart_none]
  refine wpAny_pure ?_
  have I4 : Inv X pins σ H3 { s3 with heap := s3.heap.push { cls := .type "slice", data := .fields #[vl, vu, .none] } } := I3.kept (t' := s3.toks) fun b ob q => Heap.get?_push_of_some _ q
  obtain ⟨T, id, hT, ht, hg⟩ := hr pins { s3 with heap := s3.heap.push { cls := .type "slice", data := .fields #[vl, vu, .none] } } σ H3 x v vl vu l u s3.heap.objs.size Q I4 r1 (Heap.IsSliceOf.new ..) pl pu q3
  show wpAny (model X.prog X.w) X.A (subscriptTail e (.Slice lo hi none p2) v (.ref s3.heap.objs.size)) (EP X pins σ Q) X.xe { s3 with heap := s3.heap.push { cls := .type "slice", data := .fields #[vl, vu, .none] } }
  exact tail_any (ops := [.ref s3.heap.objs.size, v]) ht hT hg (by with_unfolding_all rfl)

noncomputable def cutV (xs : List V) (lo hi : Option Int) : List V := (xs.drop (HT.sIx xs.length 0 lo)).take (HT.sIx xs.length xs.length hi - HT.sIx xs.length 0 lo)
theorem cutV_length (xs : List V) (lo hi : Option Int) : (cutV xs lo hi).length ≤ xs.length := by
  unfold cutV
  rw [List.length_take, List.length_drop]
  omega
end
end L2
namespace L2
open PySem PySem.Spec PyProof.Rows
noncomputable def ixN (n : Nat) (i : Int) : Option Nat := if 0 ≤ i then (if i < n then some i.toNat else none) else if -(n : Int) ≤ i then some (i + n).toNat else none
noncomputable def atI {α : Type} (xs : List α) (i : Int) : Option α := (ixN xs.length i).bind fun j => xs[j]?
theorem ixN_seq {n : Nat} {i : Int} {j : Nat} (h : ixN n i = some j) : seqIndex? i n = some j ∧ j < n ∧ -(n : Int) ≤ i ∧ i < n := by
  unfold ixN at h
  by_cases h0 : 0 ≤ i
  · rw [if_pos h0] at h
    by_cases h1 : i < n
    · rw [if_pos h1] at h
      have e : i.toNat = j := Option.some.inj h
      exact ⟨by rw [seqIndex_of h0 h1, e], by omega, by omega, h1⟩
    · rw [if_neg h1] at h; cases h
  · rw [if_neg h0] at h
    by_cases h1 : -(n : Int) ≤ i
    · rw [if_pos h1] at h
      have e : (i + n).toNat = j := Option.some.inj h
      exact ⟨by rw [seqIndex_neg (by omega) h1, e], by omega, h1, by omega⟩
    · rw [if_neg h1] at h; cases h
theorem atI_get {α : Type} {xs : List α} {i : Int} {v : α} (h : atI xs i = some v) : ∃ j, seqIndex? i xs.length = some j ∧ xs[j]? = some v ∧ j < xs.length ∧ -(xs.length : Int) ≤ i ∧ i < xs.length := by
  unfold atI at h
  cases e : ixN xs.length i with
  | none => rw [e] at h; cases h
  | some j =>
    rw [e] at h
    obtain ⟨h1, h2, h3, h4⟩ := ixN_seq e
    exact ⟨j, h1, h, h2, h3, h4⟩
theorem atI_nat {α : Type} {xs : List α} {j : Nat} {v : α} (h : xs[j]? = some v) : atI xs (j : Int) = some v := by
  have hj : j < xs.length := (List.getElem?_eq_some_iff.mp h).1
  have e : ixN xs.length (j : Int) = some j := by
    unfold ixN
    rw [if_pos (by omega), if_pos (by omega)]; simp
  unfold atI; rw [e]; exact h
noncomputable def PlainIx (b : Expr) : Prop := ∀ o i, subscripted b false o i = operate [o, i] (getItem o i)
noncomputable def IxR (X : Cx) (r : R2) : Prop :=
  ∀ (value slice : Expr) (pins : List (Addr × Obj)) (s : Shared) (σ : St) (H : Hp) (x y : V) (v u : Value) (Q : VK), Inv X pins σ H s → RelV x v → RelV y u → r x y H Q →
    subscripted slice false v u = operate [v, u] (getItem v u) → wpAny (model X.prog X.w) X.A (subscriptTail value slice v u) (EP X pins σ Q) X.xe s
noncomputable def MtR (X : Cx) (id : String) (r : V → List V → Hp → VK → Prop) : Prop :=
  ∀ (pins : List (Addr × Obj)) (s : Shared) (σ : St) (H : Hp) (x : V) (xs : List V) (v : Value) (us : List Value) (Q : VK), Inv X pins σ H s → RelV x v → Vals xs us → r x xs H Q →
    wpAny (model X.prog X.w) X.A (call (.builtin id) (v :: us)) (EP X pins σ Q) X.xe s
section
variable {X : Cx} {a b : Expr} {ta tb : TE} {pos : Pos}
theorem pe_ix {r : R2} (hr : IxR X r) (ha : PE X a ta) (hb : PE X b tb) (hs : PlainIx b) : PE X (.Subscript a b pos) (tOp r ta tb) := by
  intro pins s σ H Q I h
  exact Subscript_ (binT ha hb I h fun v u s2 x y H2 I2 rx ry q => hr a b pins s2 σ H2 x y v u Q I2 rx ry q (hs _ _))

noncomputable def rIxL (K : PySem.W.Frag) : R2 := fun x y H Q => ∃ p xs i v, x = .ref p ∧ y = .int i ∧ SqL K H p xs ∧ atI xs i = some v ∧ Q v H
theorem ix_list : IxR X (rIxL X.K) := by
  intro value slice pins s σ H x y v u Q I rx ry h hs
  obtain ⟨p, xs, i, z, rfl, rfl, hq, he, q⟩ := h
  cases rx
  obtain ⟨t, rfl⟩ := ry
  obtain ⟨its, r, pl, hz⟩ := I.list hq
  obtain ⟨j, h1, h2, h3, h4, h5⟩ := atI_get he
  obtain ⟨w, ew, rw'⟩ := r.get h2
  have hl := r.length
  have hn := line63
  have fin : EP X pins σ Q w s := ⟨z, H, I, rw', q⟩
  by_cases h0 : 0 ≤ i
  · have hj : i.toNat = j := by
      rw [seqIndex_of h0 h5] at h1
      exact Option.some.inj h1
    exact item_listR pl.isList h0 (by omega) (by rw [hj]; simpa using ew) fin hs
  · have hj : (i + (its.toArray.size : Int)).toNat = j := by
      rw [seqIndex_neg (by omega) h4] at h1
      rw [List.size_toArray, ← hl]
      exact Option.some.inj h1
    exact subscriptTail_builtinR (x := w) pl.isList.typeIs slot_list_getitem.lookup
      (wpAny_getItem_list_neg (Q := fun r s' => r = w ∧ EP X pins σ Q r s') pl.isList (by omega) (by rw [List.size_toArray] <;> omega) (by omega) (by rw [hj]; simpa using ew) ⟨rfl, fin⟩) hs
theorem slice_bounds (lo hi : Option Int) (n : Nat) : (sliceBounds lo hi none n).1 = ((HT.sIx n 0 lo : Nat) : Int) ∧ (sliceBounds lo hi none n).2.1 = ((HT.sIx n n hi : Nat) : Int) ∧ (sliceBounds lo hi none n).2.2 = 1 := by
  refine ⟨?_, ?_, rfl⟩
  · cases lo with
    | none => simp [sliceBounds, HT.sIx]
    | some i =>
      simp only [sliceBounds, HT.sIx, Option.getD_none, show (1 : Int) > 0 by decide, if_true]
      by_cases h : i < 0
      · simp only [h, if_true] <;> omega
      · simp only [h, if_false] <;> omega
  · cases hi with
    | none => simp [sliceBounds, HT.sIx]
    | some i =>
      simp only [sliceBounds, HT.sIx, Option.getD_none, show (1 : Int) > 0 by decide, if_true]
      by_cases h : i < 0
      · simp only [h, if_true] <;> omega
      · simp only [h, if_false] <;> omega
theorem slicePick_cut (its : List Value) (lo hi : Option Int) : slicePick its.toArray lo hi none = ((its.drop (HT.sIx its.length 0 lo)).take (HT.sIx its.length its.length hi - HT.sIx its.length 0 lo)).toArray := by
  obtain ⟨h1, h2, h3⟩ := slice_bounds lo hi its.toArray.size
  unfold slicePick
  rw [h1, h2, h3]
  simp only [sliceRange_one, pick_run, List.size_toArray] <;> rfl
noncomputable def rSlL (K : PySem.W.Frag) : V → Option Int → Option Int → Hp → VK → Prop := fun x lo hi H Q => ∃ a xs, x = .ref a ∧ SqL K H a xs ∧ ∀ p, H p = none → Q (.ref p) (upd H p (.lst (cutV xs lo hi)))
theorem sl_list : SlR X (rSlL X.K) := by
  intro pins s σ H x v vl vu lo hi sl Q I rx hs pl pu h
  obtain ⟨a, xs, rfl, hx, q⟩ := h
  cases rx
  obtain ⟨its, r, ht, hz⟩ := I.list hx
  have hlen := r.length
  refine ⟨"list", _, slot_list_getitem.lookup, ht.isList.typeIs, ?_⟩
  refine wpAny_getItem_list_slice ht.isList hs pl pu .none (by simp) ?_ (by rw [List.size_toArray] <;> omega)
  rw [slicePick_cut, ← hlen]
  refine ⟨.ref s.heap.objs.size, _, I.laid (t' := s.toks) (o := .lst (cutV xs lo hi)) (fun b ob q => Heap.get?_push_of_some _ q) (Nat.le_refl _) ?_, rfl, q _ (I.hok.fresh (Nat.le_refl _))⟩
  exact ⟨Nat.le_trans (cutV_length xs lo hi) hz, _, 0, (r.drop (HT.sIx xs.length 0 lo)).take (HT.sIx xs.length xs.length hi - HT.sIx xs.length 0 lo), Heap.get?_push_size _ rfl⟩

noncomputable def flatV : V → Bool
  | .non => true
  | .bl _ => true
  | .int _ => true
  | .str _ => true
  | _ => false
noncomputable def eqV : V → V → Bool
  | .non, .non => true
  | .bl a, .bl b => a == b
  | .bl a, .int b => (if a then 1 else 0) == b
  | .int a, .bl b => a == (if b then 1 else 0)
  | .int a, .int b => a == b
  | .str a, .str b => a == b
  | _, _ => false
theorem eqAt_V {A : Around} {s : Shared} {y x : V} {u v : Value} (ry : RelV y u) (rx : RelV x v) (fy : flatV y = true) (fx : flatV x = true) : SeqAt.EqAt A s u v (eqV y x) := by
  cases y with
  | non =>
    cases ry
    cases x with
    | non => cases rx; exact SeqAt.EqAt.same _
    | bl b => cases rx; exact SeqAt.EqAt.none_bool b
    | int b => obtain ⟨t, rfl⟩ := rx; exact SeqAt.EqAt.none_int b t
    | str b => obtain ⟨t, rfl⟩ := rx; exact SeqAt.EqAt.none_str b t
    | _ => exact absurd (show false = true from fx) Bool.false_ne_true
  | bl a =>
    cases ry
    cases x with
    | non => cases rx; exact SeqAt.EqAt.bool_none a
    | bl b => cases rx; exact SeqAt.EqAt.bool_bool a b
    | int b => obtain ⟨t, rfl⟩ := rx; exact SeqAt.EqAt.bool_int a b t
    | str b => obtain ⟨t, rfl⟩ := rx; exact SeqAt.EqAt.bool_str a b t
    | _ => exact absurd (show false = true from fx) Bool.false_ne_true
  | int a =>
    obtain ⟨t', rfl⟩ := ry
    cases x with
    | non => cases rx; exact SeqAt.EqAt.int_none a t'
    | bl b => cases rx; exact SeqAt.EqAt.int_bool a t' b
    | int b => obtain ⟨t, rfl⟩ := rx; exact SeqAt.EqAt.int_int a t' b t
    | str b => obtain ⟨t, rfl⟩ := rx; exact SeqAt.EqAt.int_str a t' b t
    | _ => exact absurd (show false = true from fx) Bool.false_ne_true
  | str a =>
    obtain ⟨t', rfl⟩ := ry
    cases x with
    | non => cases rx; exact SeqAt.EqAt.str_none a t'
    | bl b => cases rx; exact SeqAt.EqAt.str_bool a t' b
    | int b => obtain ⟨t, rfl⟩ := rx; exact SeqAt.EqAt.str_int a t' b t
    | str b => obtain ⟨t, rfl⟩ := rx; exact SeqAt.EqAt.str_str a t' b t
    | _ => exact absurd (show false = true from fx) Bool.false_ne_true
  | _ => exact absurd (show false = true from fy) Bool.false_ne_true
noncomputable def eqU (x : V) (u : Value) : Bool := match u with
  | .none => eqV .non x
  | .bool b => eqV (.bl b) x
  | .int i _ => eqV (.int i) x
  | .str z _ => eqV (.str z) x
  | _ => false
theorem eqU_of {x y : V} {u : Value} (r : RelV y u) (f : flatV y = true) : eqU x u = eqV y x := by
  cases y with
  | non => cases r; rfl
  | bl b => cases r; rfl
  | int i => obtain ⟨t, rfl⟩ := r; rfl
  | str z => obtain ⟨t, rfl⟩ := r; rfl
  | _ => exact absurd (show false = true from f) Bool.false_ne_true
theorem any_eqU {x : V} : ∀ {xs : List V} {us : List Value}, Vals xs us → xs.all flatV = true → us.any (eqU x) = xs.any fun y => eqV y x
  | _, _, .nil, _ => rfl
  | y :: xs, u :: us, .cons r t, f => by
    rw [List.all_cons, Bool.and_eq_true] at f
    rw [List.any_cons, List.any_cons, eqU_of r f.1, any_eqU t f.2]
theorem mem_eqAt {A : Around} {s : Shared} {x : V} {v : Value} (rx : RelV x v) (fx : flatV x = true) : ∀ {xs : List V} {us : List Value}, Vals xs us → xs.all flatV = true → ∀ u ∈ us, SeqAt.EqAt A s u v (eqU x u)
  | _, _, .nil, _ => fun u hu => by cases hu
  | y :: xs, u :: us, .cons r t, f => fun u' hu => by
    rw [List.all_cons, Bool.and_eq_true] at f
    rcases List.mem_cons.mp hu with rfl | hu
    · rw [eqU_of r f.1]; exact eqAt_V r rx f.1 fx
    · exact mem_eqAt rx fx t f.2 u' hu
noncomputable def inV (x : V) (xs : List V) : Bool := xs.any fun y => eqV y x
noncomputable def rIn (K : PySem.W.Frag) (neg : Bool) : R2 := fun x y H Q => ∃ p xs, y = .ref p ∧ (SqL K H p xs ∨ SqT K H p xs) ∧ flatV x = true ∧ xs.all flatV = true ∧ Q (.bl (if neg then !inV x xs else inV x xs)) H
theorem op_in_seq : OpR X (compareOp .In) (rIn X.K false) := by
  intro pins s σ H x y v u Q I rx ry h
  obtain ⟨p, xs, rfl, hq, fx, fs, q⟩ := h
  cases ry
  rcases hq with hq | hq
  · obtain ⟨its, r, pl, hz⟩ := I.list hq
    refine SeqAt.in_listAt (eqU x) pl.isList (fun w hw => mem_eqAt rx fx r fs w (by simpa using hw)) ⟨.bl _, H, I, rfl, ?_⟩
    rw [show its.toArray.any (eqU x) = its.any (eqU x) by simp, any_eqU r fs]
    exact q
  · obtain ⟨its, r, pl, hz⟩ := I.tuple hq
    refine SeqAt.in_tupleAt (eqU x) pl (fun w hw => mem_eqAt rx fx r fs w (by simpa using hw)) ⟨.bl _, H, I, rfl, ?_⟩
    rw [show its.toArray.any (eqU x) = its.any (eqU x) by simp, any_eqU r fs]
    exact q
theorem op_notIn_seq : OpR X (compareOp .NotIn) (rIn X.K true) := by
  intro pins s σ H x y v u Q I rx ry h
  obtain ⟨p, xs, rfl, hq, fx, fs, q⟩ := h
  cases ry
  rcases hq with hq | hq
  · obtain ⟨its, r, pl, hz⟩ := I.list hq
    refine SeqAt.notIn_listAt (eqU x) pl.isList (fun w hw => mem_eqAt rx fx r fs w (by simpa using hw)) ⟨.bl _, H, I, rfl, ?_⟩
    rw [show its.toArray.any (eqU x) = its.any (eqU x) by simp, any_eqU r fs]
    exact q
  · obtain ⟨its, r, pl, hz⟩ := I.tuple hq
    refine SeqAt.notIn_tupleAt (eqU x) pl (fun w hw => mem_eqAt rx fx r fs w (by simpa using hw)) ⟨.bl _, H, I, rfl, ?_⟩
    rw [show its.toArray.any (eqU x) = its.any (eqU x) by simp, any_eqU r fs]
    exact q
theorem call_len_seq : CallR X (.builtin "len") (fun xs H Q => ∃ p ys, xs = [.ref p] ∧ (SqL X.K H p ys ∨ SqT X.K H p ys) ∧ Q (.int ys.length) H) := by
  intro pins s σ H xs us Q I r h
  obtain ⟨p, ys, rfl, hq, q⟩ := h
  obtain ⟨u, rfl, rx⟩ := vals1 r
  cases rx
  have hn := line63
  rcases hq with hq | hq
  · obtain ⟨its, r', pl, hz⟩ := I.list hq
    have hlen := r'.length
    exact Calls.call_len_list pl.isList (by simp only [List.size_toArray] <;> omega) ⟨.int ys.length, H, I.tok _, ⟨s.toks + 1, by rw [List.size_toArray, hlen]⟩, q⟩
  · obtain ⟨its, r', pl, hz⟩ := I.tuple hq
    have hlen := r'.length
    exact len_tuple pl (by simp only [List.size_toArray] <;> omega) ⟨.int ys.length, H, I.tok _, ⟨s.toks + 1, by rw [List.size_toArray, hlen]⟩, q⟩
noncomputable def tyV (K : PySem.W.Frag) (T : String) (x : V) (H : Hp) : Prop := match x with
  | .str _ => T = "str"
  | .int _ => T = "int"
  | .ref p => (T = "list" ∧ ∃ xs, SqL K H p xs) ∨ (T = "tuple" ∧ ∃ o, K.lookup p = some o ∧ o.cls = .type "tuple" ∧ o.dict = none) ∨
      (T = "dict" ∧ ((∃ kvs, H p = some (.dK kvs)) ∨ ∃ kvs, H p = some (.dT kvs))) ∨ (T = "set" ∧ ∃ S n, H p = some (.set S n))
  | _ => False
theorem tyV_is {pins : List (Addr × Obj)} {σ : St} {H : Hp} {s : Shared} {T : String} {x : V} {v : Value} (I : Inv X pins σ H s) (r : RelV x v) (ty : tyV X.K T x H) :
    s.TypeIs v T ∧ ∀ a, v = .ref a → ∃ ob, s.heap.get? a = some ob ∧ ob.dict = none := by
  cases x with
  | str z =>
    obtain ⟨t, rfl⟩ := r
    cases (show T = "str" from ty)
    exact ⟨typeIs_str s z t, fun _ e => nomatch e⟩
  | int i =>
    obtain ⟨t, rfl⟩ := r
    cases (show T = "int" from ty)
    exact ⟨typeIs_int s i t, fun _ e => nomatch e⟩
  | ref p =>
    cases r
    rcases ty with ⟨rfl, xs, hq⟩ | ⟨rfl, o, hk, hc, hd⟩ | ⟨rfl, hk⟩ | ⟨rfl, S, n, hk⟩
    · obtain ⟨its, _, pl, _⟩ := I.list hq
      refine ⟨pl.isList.typeIs, fun a e => ?_⟩
      cases e
      obtain ⟨o, n, e, c, hd, _⟩ := pl
      exact ⟨o, e, hd⟩
    · refine ⟨⟨o, I.kIn p o hk, hc⟩, fun a e => ?_⟩
      cases e
      exact ⟨o, I.kIn _ o hk, hd⟩
    · have z : ∃ o, s.heap.get? p = some o ∧ o.ExactDict := by
        rcases hk with ⟨kvs, hk⟩ | ⟨kvs, hk⟩
        · obtain ⟨_, _, _, _, o, _, _, e, ex, _⟩ := I.hok p _ hk
          exact ⟨o, e, ex⟩
        · obtain ⟨_, _, _, _, o, _, _, e, ex, _⟩ := I.hok p _ hk
          exact ⟨o, e, ex⟩
      obtain ⟨o, e, ex⟩ := z
      refine ⟨⟨o, e, ex.1⟩, fun a e2 => ?_⟩
      cases e2
      exact ⟨o, e, ex.2.1⟩
    · obtain ⟨o, _, _, _, e, ex, _⟩ := I.hok p _ hk
      refine ⟨⟨o, e, ex.1⟩, fun a e2 => ?_⟩
      cases e2
      exact ⟨o, e, ex.2.1⟩
  | _ => exact False.elim ty
noncomputable def tBM0 (K : PySem.W.Frag) (T : String) (r : V → List V → Hp → VK → Prop) (to : TE) : TE := fun σ H Q => to σ H fun x H1 => tyV K T x H1 ∧ r x [] H1 Q
variable {o e : Expr} {es : List Expr} {to : TE} {t : TA} {name : Str} {apos cpos : Pos} {T id : String} {r : V → List V → Hp → VK → Prop}
theorem pe_bm0 (pa : PlainAttrs T) (slot : Slot T name id) (hty : typeOf (.builtin id) = pure (.type "method_descriptor")) (hm : MtR X id r) (ho : PE X o to)
    (hbase : attributeBase o name X.env (eval o X.env) = eval o X.env := by rfl) (hline : (apos.endLine == cpos.line) = true := by rfl) : PE X (.Call (.Attribute o name apos) [] [] cpos) (tBM0 X.K T r to) := by
  intro pins s σ H Q I h
  refine wpAny_Call_method0_late hbase hline (thn (ho pins s σ H _ I h) fun v s1 ⟨x, H1, I1, r1, ty, q1⟩ => ?_)
  obtain ⟨h1, h2⟩ := tyV_is I1 r1 ty
  exact ⟨T, id, pa, slot, hty, h1, h2, Calls.callWith_builtin rfl (PySem.evalArgs_none (hm pins s1 σ H1 x [] v [] Q I1 r1 .nil q1))⟩
end
end L2
namespace L2
open PySem PySem.Spec PyProof.Rows
section
variable {X : Cx} {pins : List (Addr × Obj)} {σ : St} {H : Hp} {s : Shared} {l b : Addr} {xs ys zs : List V}
theorem Inv.lnew {its : List Value} {t' : Nat} (I : Inv X pins σ H s) (hv : Vals ys its) (hz : ys.length ≤ sizeLine) :
    Inv X pins σ (upd H s.heap.objs.size (.lst ys)) { s with heap := s.heap.push { cls := .type "list", data := .seq its.toArray }, toks := t' } :=
  I.laid (fun _ _ q => Heap.get?_push_of_some _ q) (Nat.le_refl _) ⟨hz, its, 0, hv, Heap.get?_push_size _ rfl⟩
theorem Inv.fresh (I : Inv X pins σ H s) : H s.heap.objs.size = none := I.hok.fresh (Nat.le_refl _)
theorem Inv.lstM (I : Inv X pins σ H s) (hH : H l = some (.lst xs)) : xs.length ≤ sizeLine ∧ ∃ (its : List Value) (n : Nat), Vals xs its ∧ xs.length = its.length ∧ s.heap.get? l = some { cls := .type "list", data := .seq its.toArray n } := by
  obtain ⟨z, its, n, r, e⟩ := I.hok l _ hH
  exact ⟨z, its, n, r, r.length, e⟩

end
section
variable {X : Cx}
noncomputable def rCat : R2 := fun x y H Q => ∃ l b xs zs, x = .ref l ∧ y = .ref b ∧ H l = some (.lst xs) ∧ H b = some (.lst zs) ∧ xs.length + zs.length ≤ sizeLine ∧ ∀ p, H p = none → Q (.ref p) (upd H p (.lst (xs ++ zs)))
theorem op_cat : OpR X (binaryOp .Add) rCat := by
  intro pins s σ H x y v u Q I rx ry h
  obtain ⟨l, b, xs, zs, rfl, rfl, hH, hB, hz, q⟩ := h
  cases rx
  cases ry
  obtain ⟨z, its, n, r, hl, e⟩ := I.lstM hH
  obtain ⟨z2, its2, n2, r2, hl2, e2⟩ := I.lstM hB
  refine PySem.P.add_list e e2 ?_ (by rw [List.size_toArray, List.size_toArray]; omega)
  have ea : its.toArray ++ its2.toArray = (its ++ its2).toArray := by simp
  rw [ea]
  exact ⟨.ref _, _, I.lnew (t' := s.toks) (r.append r2) (by rw [List.length_append]; omega), rfl, q _ I.fresh⟩
end
section
variable {prog : Program} {w : World} {A : Around} {E : Value → Shared → Prop} {s : Shared}
end
section
variable {X : Cx}
end
end L2
namespace L2
open PySem PySem.Spec PyProof.Rows
section
variable {prog : Program} {w : World} {A : Around} {E : Value → Shared → Prop} {s : Shared} {l : Addr} {its : List Value} {ns : List Int} {Q : Value → Shared → Prop}
end
section
variable {X : Cx}
end
section
variable {X : Cx}
end
section
variable {X : Cx}
end
section
variable {X : Cx}
end
section
variable {X : Cx} {pins : List (Addr × Obj)} {σ : St} {H : Hp} {s : Shared}
end
section
variable {X : Cx}
end
end L2
namespace L2
open PySem PySem.Spec PyProof.Rows
section
variable {X : Cx} {pins : List (Addr × Obj)} {σ : St} {H : Hp} {s : Shared}
end
section
variable {X : Cx}
end
end L2
namespace L2
open PySem PySem.Spec PyProof.Rows
section
variable {prog : Program} {w : World} {A : Around} {R : Result → Shared → Prop} {s : Shared} {elt t0 i0 t1 i1 : Expr} {ifs0 ifs1 : List Expr} {scope : Scope} {pos : Pos} {it acc : Value} {env : Env}
end
section
variable {X : Cx}
end
end L2
namespace L2
open PySem PySem.Spec PyProof.Rows
section
variable {κ : Type} [DecidableEq κ]
end
section
variable {P : Program} {w : World} {H : Hp} {h : Heap} {a : Addr}
end
section
variable {X : Cx} {pins : List (Addr × Obj)} {σ : St} {H : Hp} {s : Shared} {a : Addr} {y v : V} {u r : Value} {o : Option V} {A : Around} {E : Value → Shared → Prop}
end
section
variable {X : Cx} {pins : List (Addr × Obj)} {σ : St} {H : Hp} {s : Shared} {a : Addr} {kvs : List (Key × V)} {k : Key} {u : Value} {A : Around} {E : Value → Shared → Prop}
end
noncomputable def NoSl (i : Expr) : Prop := ∀ ov iv, subscripted i false ov iv = operate [ov, iv] (getItem ov iv)
theorem subD_of {prog : Program} {w : World} {A : Around} {E : Value → Shared → Prop} {s : Shared} {env : Env} {value slice : Expr} {pos : Pos} {T id : String} {Q : Value → Shared → Prop}
    (hl : typeLookup (.type T) "__getitem__" = pure (some (.builtin id))) (hs : NoSl slice)
    (h : wpAny (model prog w) A (eval value env) (fun o s₁ => wpAny (model prog w) A (eval slice env) (fun i s₂ => s₂.TypeIs o T ∧ wpAny (model prog w) A (getItem o i) Q E s₂) E s₁) E s) :
    wpAny (model prog w) A (eval (.Subscript value slice pos) env) Q E s := by
  refine Subscript_ (wpAny_mono h (fun o s₁ h₁ => wpAny_mono h₁ (fun i s₂ h₂ => ?_) fun _ _ x => x) fun _ _ x => x)
  obtain ⟨hT, h₂⟩ := h₂
  unfold subscriptTail
  refine wpAny_bind ?_
  rw [getitemInPython_of_ne hT.not_modules]
  refine wpAny_bind (wpAny_specialOf hT hl ?_)
  have fin : wpAny (model prog w) A (subscripted slice false o i) (fun r s₃ => wpAny (model prog w) A (letTemporaryGo value o r >>= fun _ => pure r) Q E s₃) E s₂ := by
    rw [hs o i]
    exact wpAny_operating (wpAny_mono h₂ (fun r s₃ h₃ => wpAny_bind (wpAny_letTemporaryGo (wpAny_pure h₃))) fun _ _ x => x)
  first
    | exact wpAny_pure (wpAny_bind fin)
    | exact wpAny_bind (wpAny_pure (wpAny_bind fin))
    | exact wpAny_bind fin

section
variable {X : Cx} {o i e value : Expr} {pos pos' tpos : Pos} {td ty tv : TE}
end
section
variable {X : Cx} {pos : Pos}
end
section
variable {X : Cx} {pins : List (Addr × Obj)} {σ : St} {H : Hp} {s : Shared} {a : Addr} {y d : V} {u r : Value} {o : Option V} {A : Around} {E : Value → Shared → Prop}
end
section
variable {X : Cx} {o e f : Expr} {apos cpos : Pos} {td ty tx : TE}
end
section
variable {X : Cx} {pins : List (Addr × Obj)} {σ : St} {H : Hp} {s : Shared} {a : Addr} {kvs : List (Key × V)} {A : Around} {E : Value → Shared → Prop}
end
section
variable {X : Cx} {pins : List (Addr × Obj)} {σ : St} {H : Hp} {s : Shared} {a : Addr} {y : V} {u : Value} {A : Around} {E : Value → Shared → Prop}
end
end L2
namespace L2
open PySem PySem.Spec PyProof.Rows
section
variable {prog : Program} {w : World} {A : Around} {E : Value → Shared → Prop}
end
section
variable {X : Cx}
end
end L2
namespace L2
open PySem PySem.Spec PyProof.Rows
section
variable {X : Cx} {pins : List (Addr × Obj)} {σ : St} {H : Hp} {s : Shared} {h' : Heap}
end
section
variable {X : Cx}
end
section
variable {X : Cx} {tg : Expr}
end
section
variable {X : Cx} {tg : Expr}
end
section
variable {prog : Program} {w : World} {A : Around} {E : Value → Shared → Prop} {s : Shared}
end
section
variable {X : Cx} {pins : List (Addr × Obj)} {σ : St} {H : Hp} {s : Shared} {d : Addr} {o : Obj}
end
section
variable {P : Program} {w : World} {K : PySem.W.Frag} {tg : Expr} {d : Addr} {o : Obj} {es : Array DictEntry} {ep : Nat}
end
section
variable {X : Cx} {tg e : Expr} {td : TE} {apos cpos : Pos}
end
end L2
section 
namespace Bits
open PySem PyProof.Rows
end Bits
end 
section 
namespace TL
open PySem PySem.Builtin PySem.Builtin.Str PySem.StrLaws
end TL
end 
namespace L2
open PySem PySem.Spec PyProof.Rows
section
variable {X : Cx} {pins : List (Addr × Obj)} {σ : St} {H : Hp} {s : Shared} {Q : VK}
end
section
variable {X : Cx}
end
section
variable {X : Cx} {o e : Expr} {to te : TE}
end
end L2
namespace L2
open PySem PySem.Spec PyProof.Rows
section
variable {X : Cx}
end
end L2
namespace Att
open PySem PySem.W PySem.Calls PyProof.Rows
section
variable {prog : Program} {w : World} {A : Around} {E : Value → Shared → Prop} {s : Shared} {K : Frag}
end
end Att
namespace L2
open PySem PySem.Spec PyProof.Rows
end L2
namespace L2
open PySem PySem.Spec PyProof.Rows
end L2
namespace L2
open PySem PySem.Spec PyProof.Rows
noncomputable def inClass (s : Stmt) (j : Nat) : Stmt := match s with
  | .ClassDef _ _ _ body _ _ _ _ _ _ _ => body.getD j (.Pass ⟨0, 0, 0, 0⟩)
  | _ => .Pass ⟨0, 0, 0, 0⟩
noncomputable def defArgs (s : Stmt) : Arguments := match s with
  | .FunctionDef _ a _ _ _ _ _ _ _ _ => a
  | _ => { posonlyargs := [], args := [], vararg := none, kwonlyargs := [], kw_defaults := [], kwarg := none, defaults := [] }
noncomputable def defBody (s : Stmt) : List Stmt := match s with
  | .FunctionDef _ _ b _ _ _ _ _ _ _ => b
  | _ => []
noncomputable def defScope (s : Stmt) : Scope := match s with
  | .FunctionDef _ _ _ _ _ _ sc _ _ _ => sc
  | _ => { kind := .function, names := [], isGenerator := false, isCoroutine := false }

noncomputable abbrev CX0 : CXT := fun _ _ _ _ _ _ => False
noncomputable abbrev E0 : XK := fun _ _ _ => False
theorem pass0 {X : Cx} : Passes CX0 X E0 := fun _ _ _ _ _ _ _ h => h.elim

structure Fun (K : PySem.W.Frag) (x qual : Str) (st : Stmt) (f : Addr) (fd : FuncData) : Prop where
  ex : ∃ (oc : Value) (od : Option Addr) (kV doc pm : Value) (an : Option Addr) (cdv ct : Value) (osl : Array (Option Value)),
    fd = PySem.W.fnOf x qual (defArgs st) (defBody st) (defScope st) .none kV doc pm an cdv ct ∧ K.lookup f = some ⟨oc, od, .func fd, osl⟩ ∧ PySem.W.codeIn K cdv qual = true
  kp : PySem.W.keepIn K (.ref f) = true
section
variable {P : Program} {w : World} {K : PySem.W.Frag} {mg : Str → Option Value} {base : Heap}
theorem Fun.ok {x qual : Str} {st : Stmt} {f : Addr} {fd : FuncData} {N ps : List Str} {k : Nat} {sp : Sp} (F : Fun K x qual st f fd) (S : FnScope N ps (defScope st)) (len : ∀ vs H Q E, sp vs H Q E → vs.length = ps.length)
    (hbody : ∀ (cdv : Value) (A : Around) (outer : List Env) (s : Shared) (H : Hp) (vs : List V) (Q : VK) (E : XK), Room k (A.deeper (envOfC qual (defScope st) s.heap.objs.size f cdv)) → sp vs H Q E →
      ∃ t, PSs (cxOf CX0 P w K mg base N qual (defScope st) f cdv A outer s H E).nox (defBody st) t ∧ t { nx := fun _ H' => Q .non H', rt := Q } (start N vs) H) : FnOk P w K mg base CX0 (k + 1) f fd ps sp := by
  obtain ⟨oc, od, kV, doc, pm, an, cdv, ct, osl, rfl, lk, hcd⟩ := F.ex
  refine fn_of lk hcd S len fun A outer s H vs Q E hr hsp => ?_
  obtain ⟨t, h, q⟩ := hbody cdv A outer s H vs Q E hr hsp
  exact ⟨t, h.nox, q⟩
theorem Fun.binds {x qual : Str} {st : Stmt} {f : Addr} {fd : FuncData} {ps : List Str} (F : Fun K x qual st f fd)
    (h : ∀ (kV doc pm : Value) (an : Option Addr) (cdv ct : Value) (us : List Value), us.length = ps.length → bindArgs (PySem.W.fnOf x qual (defArgs st) (defBody st) (defScope st) .none kV doc pm an cdv ct) ⟨us, []⟩ = pure (ps.zip us)) : Binds K fd ps [] := by
  obtain ⟨oc, od, kV, doc, pm, an, cdv, ct, osl, rfl, lk, hcd⟩ := F.ex
  exact .all (h kV doc pm an cdv ct)
theorem fun_mk {x qual : Str} {st : Stmt} {f : Addr} {oc : Value} {od an : Option Addr} {osl : Array (Option Value)} {kV doc pm cdv ct : Value} (l : K.lookup f = some ⟨oc, od, .func (PySem.W.fnOf x qual (defArgs st) (defBody st) (defScope st) .none kV doc pm an cdv ct), osl⟩)
    (c : PySem.W.codeIn K cdv qual = true) (k : PySem.W.keepIn K (.ref f) = true) : Fun K x qual st f (PySem.W.fnOf x qual (defArgs st) (defBody st) (defScope st) .none kV doc pm an cdv ct) := ⟨⟨oc, od, kV, doc, pm, an, cdv, ct, osl, rfl, l, c⟩, k⟩
end
theorem hu_of {A : Around} {k : Nat} (hr : Room k A) : A.units + 1 < cLine := Nat.lt_of_le_of_lt (Nat.add_le_add_left (by decide : 1 ≤ 64) _) hr.units
section
variable {X : Cx}
theorem pv (i : Nat) {x : Str} {pos : Pos} (hN : X.N[i]? = some x := by rfl) (hv : Vis X.env.scope x := by first | exact Or.inl rfl | exact Or.inr (Or.inl rfl) | exact Or.inr (Or.inr rfl)) (hd : (x == ("__debug__" : Str)) = false := by decide)
    (hcd : (x == ("__classdict__" : Str)) = false := by decide) : PE X (.Name x pos) (tVar i) := pe_var hN hv hd hcd
end
theorem iteF {A B : Prop} (h : B) : if false = true then A else B := by
  rw [if_neg Bool.false_ne_true]
  exact h
theorem iteT {A B : Prop} (h : A) : if true = true then A else B := by
  rw [if_pos rfl]
  exact h
noncomputable def Same (H H' : Hp) : Prop := ∀ b o, H b = some o → H' b = some o
theorem Same.trans {H H1 H2 : Hp} (a : Same H H1) (b : Same H1 H2) : Same H H2 := fun c o h => b c o (a c o h)
theorem Same.seq {K : PySem.W.Frag} {H H' : Hp} {a : Addr} {xs : List V} (e : Same H H') (h : SqL K H a xs) : SqL K H' a xs := by
  rcases h with (h | ⟨o, h⟩) | h
  · exact .inl (.inl (e _ _ h))
  · exact .inl (.inr ⟨o, e _ _ h⟩)
  · exact .inr h

section
variable {κ : Type} [DecidableEq κ]
end
theorem at_of {xs : List V} {z : Int} {j : Nat} {v : V} (e : z = (j : Int)) (h : xs[j]? = some v) : atI xs z = some v := by
  rw [e]
  exact atI_nat h
theorem Same.made {H H1 : Hp} {x dx C : Addr} (nx : H x = Option.none) (nd : H dx = Option.none) (k : ∀ b o, (upd (upd H dx (.own x)) x (.ins C dx [])) b = some o → b ≠ x → H1 b = some o) : Same H H1 := fun b o e =>
  k b o (by rw [upd_ne (ne_of_none e nx), upd_ne (ne_of_none e nd)]; exact e) (ne_of_none e nx)
end L2
section
set_option Elab.async false
set_option linter.all false
set_option maxRecDepth 100000
set_option maxHeartbeats 2000000
namespace L2
open PySem PySem.Spec PyProof.Rows
open PySem.W (WData Codec OpenSpec Well WellAll ReadsW ReadsAllW)
mutual
/-- x stands for the datum d, lists and tuples all the way -/
inductive Dw (K : PySem.W.Frag) (H : Hp) : V → WData → Prop
  | non : Dw K H .non .none
  | bl (b : Bool) : Dw K H (.bl b) (.bool b)
  | int (i : Int) : Dw K H (.int i) (.int i)
  | str (x : Str) : Dw K H (.str x) (.str x)
  | byt (b : Array UInt8) : Dw K H (.byt b) (.bytes b.toList)
  | lst {a : Addr} {xs : List V} {ds : List WData} : SqL K H a xs → DwAll K H xs ds → Dw K H (.ref a) (.list ds)
  | tup {a : Addr} {xs : List V} {ds : List WData} : SqT K H a xs → DwAll K H xs ds → Dw K H (.ref a) (.tuple ds)
inductive DwAll (K : PySem.W.Frag) (H : Hp) : List V → List WData → Prop
  | nil : DwAll K H [] []
  | cons {v : V} {vs : List V} {d : WData} {ds : List WData} : Dw K H v d → DwAll K H vs ds → DwAll K H (v :: vs) (d :: ds)
end
theorem dw_ints {K : PySem.W.Frag} {H : Hp} : ∀ ns : List Int, DwAll K H (ns.map V.int) (ns.map WData.int)
  | [] => .nil
  | n :: r => .cons (.int n) (dw_ints r)
theorem ints_dw {K : PySem.W.Frag} {H : Hp} : ∀ (ns : List Int) (xs : List V), DwAll K H xs (ns.map WData.int) → xs = ns.map V.int
  | [], xs, h => by
    cases h
    rfl
  | n :: r, xs, h => by
    cases h with
    | cons h1 h2 =>
      cases h1
      rw [ints_dw r _ h2] <;> rfl
section
variable {P : Program} {w : World} {K : PySem.W.Frag} {H : Hp} {h : Heap} {R : PySem.W.WRecords} {cl : Str → Option Addr}
theorem sqL_at {a : Addr} {xs : List V} (hok : HOk P w H h) (KX : K.In h) (q : SqL K H a xs) : ∃ (its : List Value) (o : Obj) (n : Nat), Vals xs its ∧ h.get? a = some o ∧ o.cls = .type "list" ∧ o.data = .seq its.toArray n := by
  rcases q with q | ⟨o, its, n, e, hc, _, hd, _, hv⟩
  · obtain ⟨_, its, n, hv, e⟩ := (show ObjOk P w H h a (.lst xs) from q.ok hok)
    exact ⟨its, _, n, hv, e, rfl, rfl⟩
  · exact ⟨its.toList, o, n, hv, KX _ _ e, hc, by simp [hd]⟩
theorem sqT_at {a : Addr} {xs : List V} (hok : HOk P w H h) (KX : K.In h) (q : SqT K H a xs) : ∃ (its : List Value) (o : Obj) (n : Nat), Vals xs its ∧ h.get? a = some o ∧ o.cls = .type "tuple" ∧ o.data = .seq its.toArray n := by
  rcases q with q | ⟨o, its, n, e, hc, hd, _, hv⟩
  · obtain ⟨_, its, hv, o, e, hc, n, hd⟩ := (show ObjOk P w H h a (.tup xs) from q.ok hok)
    exact ⟨its, o, n, hv, e, hc, hd⟩
  · exact ⟨its.toList, o, n, hv, KX _ _ e, hc, by simp [hd]⟩
mutual
theorem Dw.reads (hok : HOk P w H h) (KX : K.In h) : ∀ (d : WData) (v : V) (u : Value), Dw K H v d → RelV v u → ∃ as, ReadsW R cl h u d as
  | .none, _, _, x, r => by
    cases x
    cases r
    exact ⟨_, ReadsW.none⟩
  | .bool b, _, _, x, r => by
    cases x
    cases r
    exact ⟨_, ReadsW.bool b⟩
  | .int i, _, _, x, r => by
    cases x
    obtain ⟨t, rfl⟩ := r
    exact ⟨_, ReadsW.int i t⟩
  | .str s, _, _, x, r => by
    cases x
    obtain ⟨t, rfl⟩ := r
    exact ⟨_, ReadsW.str s t⟩
  | .bytes b, _, _, x, r => by
    cases x
    obtain ⟨t, rfl⟩ := r
    exact ⟨_, ReadsW.bytes _ t⟩
  | .list ds, _, _, x, r => by
    cases x with
    | lst hs ha =>
      cases r
      obtain ⟨its, o, n, rv, ho, hc, hd⟩ := sqL_at hok KX hs
      obtain ⟨as, hr⟩ := Dw.readsAll hok KX ds _ its ha rv
      exact ⟨_, ReadsW.list ho hc hd hr⟩
  | .tuple ds, _, _, x, r => by
    cases x with
    | tup hs ha =>
      cases r
      obtain ⟨its, o, n, rv, ho, hc, hd⟩ := sqT_at hok KX hs
      obtain ⟨as, hr⟩ := Dw.readsAll hok KX ds _ its ha rv
      exact ⟨_, ReadsW.tuple ho hc hd hr⟩
  | .float _, _, _, x, _ => by cases x
  | .dict _, _, _, x, _ => by cases x
  | .bytearray _, _, _, x, _ => by cases x
  | .set _, _, _, x, _ => by cases x
  | .frozenset _, _, _, x, _ => by cases x
  | .obj _ _, _, _, x, _ => by cases x
theorem Dw.readsAll (hok : HOk P w H h) (KX : K.In h) : ∀ (ds : List WData) (vs : List V) (us : List Value), DwAll K H vs ds → Vals vs us → ∃ as, ReadsAllW R cl h us ds as
  | [], _, _, x, r => by
    cases x
    cases r
    exact ⟨_, ReadsAllW.nil⟩
  | d :: ds, _, _, x, r => by
    cases x with
    | cons h1 h2 =>
      cases r with
      | cons r1 r2 =>
        obtain ⟨as, q1⟩ := Dw.reads hok KX d _ _ h1 r1
        obtain ⟨bs, q2⟩ := Dw.readsAll hok KX ds _ _ h2 r2
        exact ⟨_, ReadsAllW.cons q1 q2⟩
end
end
mutual
/-- data that a codec tells -/
noncomputable def plW : WData → Bool
  | .none => true
  | .bool _ => true
  | .int _ => true
  | .str _ => true
  | .bytes _ => true
  | .list xs => plWs xs
  | .tuple xs => plWs xs
  | _ => false
noncomputable def plWs : List WData → Bool
  | [] => true
  | x :: r => plW x && plWs r
end
theorem plWs_map {α : Type} {f : α → WData} (h : ∀ a, plW (f a) = true) : ∀ l : List α, plWs (l.map f) = true
  | [] => rfl
  | x :: r => by
    show (plW (f x) && plWs (r.map f)) = true
    rw [h x, plWs_map h r] <;> rfl
theorem pl_enc : ∀ (c : Codec) (a : c.denote), plW (c.enc a) = true
  | .unit, _ => rfl
  | .bool, _ => rfl
  | .int _ _, _ => rfl
  | .nat _ _, _ => rfl
  | .u8, _ => rfl
  | .bytes _ _, _ => rfl
  | .text _ _ _ _, _ => rfl
  | .list _ _ c, a => plWs_map (fun x => pl_enc c x) a
  | .pair c d, a => by
    show (plW (c.enc a.1) && (plW (d.enc a.2) && true)) = true
    rw [pl_enc c a.1, pl_enc d a.2] <;> rfl
  | .triple c d e, a => by
    show (plW (c.enc a.1) && (plW (d.enc a.2.1) && (plW (e.enc a.2.2) && true))) = true
    rw [pl_enc c a.1, pl_enc d a.2.1, pl_enc e a.2.2] <;> rfl
  | .option c, none => rfl
  | .option c, some x => pl_enc c x
theorem pl_encAll : ∀ (cs : List Codec) (a : Codec.denoteAll cs), plWs (Codec.encAll cs a) = true
  | [], _ => rfl
  | c :: cs, a => by
    show (plW (c.enc a.1) && plWs (Codec.encAll cs a.2)) = true
    rw [pl_enc c a.1, pl_encAll cs a.2] <;> rfl
theorem weight_mem : ∀ {xs : List WData} {d : WData}, d ∈ xs → d.weight ≤ WData.weightAll xs
  | [], d, h => absurd h (by simp)
  | x :: r, d, h => by
    show d.weight ≤ x.weight + 1 + WData.weightAll r
    rcases List.mem_cons.mp h with e | m
    · rw [e]
      omega
    · have z := weight_mem m
      omega
noncomputable def toV : Value → V
  | .none => .non
  | .bool b => .bl b
  | .int i _ => .int i
  | .str x _ => .str x
  | .bytes b _ => .byt b
  | .ref a => .ref a
  | _ => .non
noncomputable def OkU (A : List Addr) : Value → Prop
  | .none => True
  | .bool _ => True
  | .int _ _ => True
  | .str _ _ => True
  | .bytes _ _ => True
  | .ref a => a ∈ A
  | _ => False
theorem OkU.mono {A B : List Addr} (h : ∀ a ∈ A, a ∈ B) : ∀ {u : Value}, OkU A u → OkU B u := fun {u} x => by
  cases u with
  | ref a => exact h a x
  | none => trivial
  | bool b => trivial
  | int i t => trivial
  | str s t => trivial
  | bytes b t => trivial
  | _ => exact False.elim x
theorem relV_toV {A : List Addr} {u : Value} (x : OkU A u) : RelV (toV u) u := by
  cases u with
  | ref a => rfl
  | none => rfl
  | bool b => rfl
  | int i t => exact ⟨t, rfl⟩
  | str s t => exact ⟨t, rfl⟩
  | bytes b t => exact ⟨t, rfl⟩
  | _ => exact False.elim x
theorem vals_toV {A : List Addr} : ∀ {vs : List Value}, (∀ u ∈ vs, OkU A u) → Vals (vs.map toV) vs
  | [], _ => .nil
  | u :: r, h => .cons (relV_toV (h u (List.mem_cons_self ..))) (vals_toV fun x hx => h x (List.mem_cons_of_mem _ hx))
noncomputable def ArgOb (h : Heap) (A : List Addr) (a : Addr) : Prop := ∃ vs : List Value, vs.length ≤ sizeLine ∧ (∀ u ∈ vs, OkU A u) ∧
  (h.get? a = some { cls := .type "list", data := .seq vs.toArray } ∨ h.get? a = some { cls := .type "tuple", data := .seq vs.toArray })
theorem ArgOb.mono {h : Heap} {A B : List Addr} {a : Addr} (k : ∀ a ∈ A, a ∈ B) (x : ArgOb h A a) : ArgOb h B a := by
  obtain ⟨vs, h1, h2, h3⟩ := x
  exact ⟨vs, h1, fun u hu => (h2 u hu).mono k, h3⟩
theorem wellAll_len {P : Params} {h : Heap} : ∀ {vs : List Value} {ds : List WData}, WellAll P h vs ds → vs.length = ds.length
  | _, _, .nil => rfl
  | _, _, .cons _ b => by
    show _ + 1 = _ + 1
    rw [wellAll_len b]
theorem well_list {P : Params} {h : Heap} {v : Value} {ds : List WData} (x : Well P h v (.list ds)) : ∃ (a : Addr) (vs : List Value), v = .ref a ∧ h.get? a = some { cls := .type "list", data := .seq vs.toArray } ∧ WellAll P h vs ds := by
  cases x with
  | list ho hall => exact ⟨_, _, rfl, ho, hall⟩
theorem well_tuple {P : Params} {h : Heap} {v : Value} {ds : List WData} (x : Well P h v (.tuple ds)) : ∃ (a : Addr) (vs : List Value), v = .ref a ∧ h.get? a = some { cls := .type "tuple", data := .seq vs.toArray } ∧ WellAll P h vs ds := by
  cases x with
  | tuple ho hall => exact ⟨_, _, rfl, ho, hall⟩
theorem well_cons {P : Params} {h : Heap} {us : List Value} {d : WData} {ds : List WData} (x : WellAll P h us (d :: ds)) : ∃ (v : Value) (vs : List Value), us = v :: vs ∧ Well P h v d ∧ WellAll P h vs ds := by
  cases x with
  | cons a b => exact ⟨_, _, rfl, a, b⟩
theorem line_of {n : Nat} (h : n ≤ 1048576) : n ≤ sizeLine := Nat.le_trans h (by decide)
section
variable {P : Params} {h : Heap}
mutual
theorem area_one : ∀ (d : WData) (v : Value), Well P h v d → plW d = true → d.weight ≤ 1048576 → ∃ A : List Addr, OkU A v ∧ ∀ a ∈ A, ArgOb h A a
  | .none, _, x, _, _ => by
    cases x
    exact ⟨[], trivial, fun a m => absurd m (by simp)⟩
  | .bool b, _, x, _, _ => by
    cases x
    exact ⟨[], trivial, fun a m => absurd m (by simp)⟩
  | .int i, _, x, _, _ => by
    cases x
    exact ⟨[], trivial, fun a m => absurd m (by simp)⟩
  | .str s, _, x, _, _ => by
    cases x
    exact ⟨[], trivial, fun a m => absurd m (by simp)⟩
  | .bytes b, _, x, _, _ => by
    cases x
    exact ⟨[], trivial, fun a m => absurd m (by simp)⟩
  | .list ds, _, x, p, z => by
    obtain ⟨a, vs, rfl, ho, hall⟩ := well_list x
    have z2 : WData.weightAll ds ≤ 1048576 := z
    obtain ⟨A, h1, h2⟩ := area_all ds _ hall p fun d hd => Nat.le_trans (weight_mem hd) z2
    have k : ∀ b ∈ A, b ∈ a :: A := fun b hb => List.mem_cons_of_mem _ hb
    refine ⟨a :: A, List.mem_cons_self .., fun b hb => ?_⟩
    rcases List.mem_cons.mp hb with e | m
    · rw [e]
      exact ⟨vs, line_of (by rw [wellAll_len hall]; exact Nat.le_trans (PySem.W.length_le_weightAllW ds) z2), fun u hu => (h1 u hu).mono k, .inl ho⟩
    · exact (h2 b m).mono k
  | .tuple ds, _, x, p, z => by
    obtain ⟨a, vs, rfl, ho, hall⟩ := well_tuple x
    have z2 : WData.weightAll ds ≤ 1048576 := z
    obtain ⟨A, h1, h2⟩ := area_all ds _ hall p fun d hd => Nat.le_trans (weight_mem hd) z2
    have k : ∀ b ∈ A, b ∈ a :: A := fun b hb => List.mem_cons_of_mem _ hb
    refine ⟨a :: A, List.mem_cons_self .., fun b hb => ?_⟩
    rcases List.mem_cons.mp hb with e | m
    · rw [e]
      exact ⟨vs, line_of (by rw [wellAll_len hall]; exact Nat.le_trans (PySem.W.length_le_weightAllW ds) z2), fun u hu => (h1 u hu).mono k, .inr ho⟩
    · exact (h2 b m).mono k
  | .float _, _, _, p, _ => Bool.noConfusion (show false = true from p)
  | .dict _, _, _, p, _ => Bool.noConfusion (show false = true from p)
  | .bytearray _, _, _, p, _ => Bool.noConfusion (show false = true from p)
  | .set _, _, _, p, _ => Bool.noConfusion (show false = true from p)
  | .frozenset _, _, _, p, _ => Bool.noConfusion (show false = true from p)
  | .obj _ _, _, _, p, _ => Bool.noConfusion (show false = true from p)
theorem area_all : ∀ (ds : List WData) (vs : List Value), WellAll P h vs ds → plWs ds = true → (∀ d ∈ ds, d.weight ≤ 1048576) → ∃ A : List Addr, (∀ u ∈ vs, OkU A u) ∧ ∀ a ∈ A, ArgOb h A a
  | [], _, x, _, _ => by
    cases x
    exact ⟨[], fun u m => absurd m (by simp), fun a m => absurd m (by simp)⟩
  | d :: ds, _, x, p, z => by
    obtain ⟨v, vs, rfl, x1, x2⟩ := well_cons x
    have q : plW d = true ∧ plWs ds = true := Bool.and_eq_true_iff.mp p
    obtain ⟨A, a1, a2⟩ := area_one d v x1 q.1 (z d (List.mem_cons_self ..))
    obtain ⟨B, b1, b2⟩ := area_all ds vs x2 q.2 fun e he => z e (List.mem_cons_of_mem _ he)
    have kA : ∀ b ∈ A, b ∈ A ++ B := fun b hb => List.mem_append.mpr (.inl hb)
    have kB : ∀ b ∈ B, b ∈ A ++ B := fun b hb => List.mem_append.mpr (.inr hb)
    refine ⟨A ++ B, fun u hu => ?_, fun b hb => ?_⟩
    · rcases List.mem_cons.mp hu with e | m
      · rw [e]
        exact a1.mono kA
      · exact (b1 u m).mono kB
    · rcases List.mem_append.mp hb with m | m
      · exact (a2 b m).mono kA
      · exact (b2 b m).mono kB
end
end
noncomputable def hoOf (o : Obj) : Option HO := match o.data with
  | .seq vs _ => if (o.cls == Value.type "list") = true then some (.frz o (.lst (vs.toList.map toV))) else some (.frz o (.tup (vs.toList.map toV)))
  | _ => none
noncomputable def argH (K : PySem.W.Frag) (h : Heap) (A : List Addr) : Hp := fun b => if b ∈ A then (if (K.lookup b).isNone = true then (h.get? b).bind hoOf else none) else none
noncomputable def OnlyF (H : Hp) : Prop := ∀ b, H b = none ∨ ∃ o u, H b = some (.frz o u)
theorem hoOf_lst (vs : List Value) : hoOf { cls := .type "list", data := .seq vs.toArray } = some (.frz { cls := .type "list", data := .seq vs.toArray } (.lst (vs.map toV))) := by
  show (if (Value.type "list" == Value.type "list") = true then some (HO.frz { cls := .type "list", data := .seq vs.toArray } (.lst (vs.toArray.toList.map toV))) else some (HO.frz { cls := .type "list", data := .seq vs.toArray } (.tup (vs.toArray.toList.map toV)))) = _
  rw [if_pos (beq_self_eq_true _)]
theorem hoOf_tup (vs : List Value) : hoOf { cls := .type "tuple", data := .seq vs.toArray } = some (.frz { cls := .type "tuple", data := .seq vs.toArray } (.tup (vs.map toV))) := by
  show (if (Value.type "tuple" == Value.type "list") = true then some (HO.frz { cls := .type "tuple", data := .seq vs.toArray } (.lst (vs.toArray.toList.map toV))) else some (HO.frz { cls := .type "tuple", data := .seq vs.toArray } (.tup (vs.toArray.toList.map toV)))) = _
  rw [if_neg (by decide)]
section
variable {P : Program} {w : World} {K : PySem.W.Frag} {h : Heap} {A : List Addr}
theorem argH_at {b : Addr} {o : Obj} (hb : b ∈ A) (hk : K.lookup b = none) (e : h.get? b = some o) : argH K h A b = hoOf o := by
  unfold argH
  rw [if_pos hb, hk, if_pos (show (none : Option Obj).isNone = true from rfl), e] <;> rfl
theorem of_argH {b : Addr} {u : HO} (q : argH K h A b = some u) : b ∈ A ∧ K.lookup b = none := by
  unfold argH at q
  by_cases hb : b ∈ A
  · rw [if_pos hb] at q
    cases hk : K.lookup b with
    | none => exact ⟨hb, rfl⟩
    | some o =>
      rw [hk, if_neg (by simp)] at q
      cases q
  · rw [if_neg hb] at q
    cases q
theorem argH_is (ar : ∀ a ∈ A, ArgOb h A a) {b : Addr} {u : HO} (q : argH K h A b = some u) : K.lookup b = none ∧ ∃ vs : List Value, vs.length ≤ sizeLine ∧ (∀ u ∈ vs, OkU A u) ∧
    ((h.get? b = some { cls := .type "list", data := .seq vs.toArray } ∧ u = .frz { cls := .type "list", data := .seq vs.toArray } (.lst (vs.map toV))) ∨
     (h.get? b = some { cls := .type "tuple", data := .seq vs.toArray } ∧ u = .frz { cls := .type "tuple", data := .seq vs.toArray } (.tup (vs.map toV)))) := by
  obtain ⟨hb, hk⟩ := of_argH q
  obtain ⟨vs, h1, h2, h3⟩ := ar b hb
  refine ⟨hk, vs, h1, h2, ?_⟩
  rcases h3 with e | e
  · rw [argH_at hb hk e, hoOf_lst] at q
    exact .inl ⟨e, (Option.some.inj q).symm⟩
  · rw [argH_at hb hk e, hoOf_tup] at q
    exact .inr ⟨e, (Option.some.inj q).symm⟩
theorem argH_only (ar : ∀ a ∈ A, ArgOb h A a) : OnlyF (argH K h A) := fun b => by
  cases q : argH K h A b with
  | none => exact .inl rfl
  | some u =>
    obtain ⟨_, vs, _, _, ⟨_, e⟩ | ⟨_, e⟩⟩ := argH_is ar q
    · exact .inr ⟨_, _, by rw [e]⟩
    · exact .inr ⟨_, _, by rw [e]⟩
theorem argH_ok (ar : ∀ a ∈ A, ArgOb h A a) : HOk P w (argH K h A) h := fun b u q => by
  obtain ⟨_, vs, h1, h2, ⟨e, rfl⟩ | ⟨e, rfl⟩⟩ := argH_is ar q
  · exact ⟨e, by rw [List.length_map]; exact h1, vs, _, vals_toV h2, e⟩
  · exact ⟨e, by rw [List.length_map]; exact h1, vs, vals_toV h2, _, e, rfl, _, rfl⟩
theorem seq_inj {c c' : Value} {vs us : List Value} (e : (some { cls := c, data := .seq vs.toArray } : Option Obj) = some { cls := c', data := .seq us.toArray }) : c = c' ∧ vs = us := by
  have e1 := Option.some.inj e
  have e2 : c = c' := congrArg Obj.cls e1
  have e3 : Data.seq vs.toArray = Data.seq us.toArray := congrArg Obj.data e1
  injection e3 with e4
  refine ⟨e2, ?_⟩
  have e5 := congrArg Array.toList e4
  simpa using e5
theorem argL (KX : K.In h) (ar : ∀ a ∈ A, ArgOb h A a) {a : Addr} {vs : List Value} (ha : a ∈ A) (e : h.get? a = some { cls := .type "list", data := .seq vs.toArray }) : (∀ u ∈ vs, OkU A u) ∧ SqL K (argH K h A) a (vs.map toV) := by
  obtain ⟨us, h1, h2, h3⟩ := ar a ha
  have hu : us = vs := by
    rcases h3 with q | q
    · rw [e] at q
      exact (seq_inj q).2.symm
    · rw [e] at q
      exact absurd (Value.type.inj (seq_inj q).1) (by decide)
  subst hu
  refine ⟨h2, ?_⟩
  cases hk : K.lookup a with
  | none => exact .inl (.inr ⟨_, by rw [argH_at ha hk e, hoOf_lst]⟩)
  | some o =>
    have e2 := KX a o hk
    rw [e] at e2
    obtain rfl := Option.some.inj e2
    exact .inr ⟨_, us.toArray, _, hk, rfl, rfl, rfl, by rw [List.size_toArray]; exact h1, by simpa using vals_toV h2⟩
theorem argT (KX : K.In h) (ar : ∀ a ∈ A, ArgOb h A a) {a : Addr} {vs : List Value} (ha : a ∈ A) (e : h.get? a = some { cls := .type "tuple", data := .seq vs.toArray }) : (∀ u ∈ vs, OkU A u) ∧ SqT K (argH K h A) a (vs.map toV) := by
  obtain ⟨us, h1, h2, h3⟩ := ar a ha
  have hu : us = vs := by
    rcases h3 with q | q
    · rw [e] at q
      exact absurd (Value.type.inj (seq_inj q).1) (by decide)
    · rw [e] at q
      exact (seq_inj q).2.symm
  subst hu
  refine ⟨h2, ?_⟩
  cases hk : K.lookup a with
  | none => exact .inl (.inr ⟨_, by rw [argH_at ha hk e, hoOf_tup]⟩)
  | some o =>
    have e2 := KX a o hk
    rw [e] at e2
    obtain rfl := Option.some.inj e2
    exact .inr ⟨_, us.toArray, _, hk, rfl, rfl, by rw [List.size_toArray]; exact h1, by simpa using vals_toV h2⟩
mutual
theorem dw_one {Pm : Params} (KX : K.In h) (ar : ∀ a ∈ A, ArgOb h A a) : ∀ (d : WData) (v : Value), Well Pm h v d → plW d = true → OkU A v → Dw K (argH K h A) (toV v) d
  | .none, _, x, _, _ => by
    cases x
    exact .non
  | .bool b, _, x, _, _ => by
    cases x
    exact .bl b
  | .int i, _, x, _, _ => by
    cases x
    exact .int i
  | .str s, _, x, _, _ => by
    cases x
    exact .str s
  | .bytes b, _, x, _, _ => by
    cases x
    have z := Dw.byt (K := K) (H := argH K h A) b.toArray
    exact z
  | .list ds, _, x, p, hu => by
    obtain ⟨a, vs, rfl, ho, hall⟩ := well_list x
    obtain ⟨h2, hs⟩ := argL KX ar hu ho
    exact .lst hs (dw_all KX ar ds _ hall p h2)
  | .tuple ds, _, x, p, hu => by
    obtain ⟨a, vs, rfl, ho, hall⟩ := well_tuple x
    obtain ⟨h2, hs⟩ := argT KX ar hu ho
    exact .tup hs (dw_all KX ar ds _ hall p h2)
  | .float _, _, _, p, _ => Bool.noConfusion (show false = true from p)
  | .dict _, _, _, p, _ => Bool.noConfusion (show false = true from p)
  | .bytearray _, _, _, p, _ => Bool.noConfusion (show false = true from p)
  | .set _, _, _, p, _ => Bool.noConfusion (show false = true from p)
  | .frozenset _, _, _, p, _ => Bool.noConfusion (show false = true from p)
  | .obj _ _, _, _, p, _ => Bool.noConfusion (show false = true from p)
theorem dw_all {Pm : Params} (KX : K.In h) (ar : ∀ a ∈ A, ArgOb h A a) : ∀ (ds : List WData) (vs : List Value), WellAll Pm h vs ds → plWs ds = true → (∀ u ∈ vs, OkU A u) → DwAll K (argH K h A) (vs.map toV) ds
  | [], _, x, _, _ => by
    cases x
    exact .nil
  | d :: ds, _, x, p, hu => by
    obtain ⟨v, vs, rfl, x1, x2⟩ := well_cons x
    have q : plW d = true ∧ plWs ds = true := Bool.and_eq_true_iff.mp p
    exact .cons (dw_one KX ar d v x1 q.1 (hu _ (List.mem_cons_self ..))) (dw_all KX ar ds vs x2 q.2 fun u m => hu u (List.mem_cons_of_mem _ m))
end
end
theorem spec_call {P : Program} {w : World} {K : PySem.W.Frag} {mg mb : Str → Option Value} {CX : CXT} {k : Nat} {fa : Addr} {fd : FuncData} {ps : List Str} {sp : Sp} {s₁ : Shared} {vals : List Value} {ds : List WData} {R : PySem.W.WRecords} {cl : Str → Option Addr} {d0 : WData}
    (KX : K.In s₁.heap) (hns : s₁.heap.Ns mainGlobals mg) (hb : s₁.heap.Ns builtinsNs mb) (hbb : ∀ x : Str, x ≠ "__name__" → mb x = bootBuiltins x) (hlim : s₁.heap.NoLimit) (hg : s₁.gens = #[])
    (hwl : WellAll w.params s₁.heap vals ds) (hpl : plWs ds = true) (hwt : ∀ d ∈ ds, d.weight ≤ 1048576) (hr : Room k callerA)
    (F : ∀ base : Heap, K.In base → base.Ns mainGlobals mg → FnOk P w K mg base CX k fa fd ps sp) (hbind : ∀ (s : Shared) (us : List Value), us.length = ps.length → BindsTo s fd ⟨us, []⟩ (ps.zip us)) (hlen : ds.length = ps.length)
    (hsp : ∀ (H : Hp) (xs : List V), OnlyF H → DwAll K H xs ds → sp xs H (fun v H' => Dw K H' v d0) fun _ _ _ => False)
    (hCX : ∀ H e s', CX [] H s₁ (fun _ _ _ => False) e s' → False) :
    codeAny (model P w) callerA (.call (.ref fa) ⟨vals, []⟩) (fun r s' => ∃ u as, r = .ok (.ret u) ∧ ReadsW R cl s'.heap u d0 as ∧ OldK s₁.heap s'.heap ∧ s'.os = s₁.os ∧ AllBare s'.gens) s₁ := by
  obtain ⟨A, ho, ar⟩ := area_all ds vals hwl hpl hwt
  have hO : OnlyF (argH K s₁.heap A) := argH_only ar
  have hok : HOk P w (argH K s₁.heap A) s₁.heap := argH_ok ar
  have hS := dw_all KX ar ds vals hwl hpl ho
  have hV := vals_toV ho
  have hK : ∀ b u, argH K s₁.heap A b = some u → K.lookup b = none := fun b u q => (argH_is ar q).1
  have noA : ∀ {b : Addr} {o : Obj} {es : Array DictEntry} {ep : Nat}, s₁.heap.get? b = some o → o.data = .dict es ep → argH K s₁.heap A b = none := fun {b o es ep} e d => by
    cases q : argH K s₁.heap A b with
    | none => rfl
    | some u =>
      obtain ⟨_, vs, _, _, ⟨e2, _⟩ | ⟨e2, _⟩⟩ := argH_is ar q
      · rw [e2] at e
        cases e
        have d' : Data.seq vs.toArray _ = Data.dict es ep := d
        cases d'
      · rw [e2] at e
        cases e
        have d' : Data.seq vs.toArray _ = Data.dict es ep := d
        cases d'
  generalize argH K s₁.heap A = H at hO hok hS hK noA
  have base_of : ∀ {b : Addr} {o : Obj}, s₁.heap.get? b = some o → H b = none → (hidT s₁.heap H).get? b = some o := fun e n => hidT_get e n
  have nsK : ∀ {b : Addr} {m : Str → Option Value}, s₁.heap.Ns b m → (hidT s₁.heap H).Ns b m := fun {b m} ⟨o, es, ep, e, d, r⟩ => ⟨o, es, ep, base_of e (noA e d), d, r⟩
  have nK : ∀ b o, K.lookup b = some o → H b = none := fun b o e => by
    cases q : H b with
    | none => rfl
    | some u =>
      rw [hK b u q] at e
      cases e
  have hKb : K.In (hidT s₁.heap H) := fun b o e => base_of (KX b o e) (nK b o e)
  have hM : Mod K mg (hidT s₁.heap H) := ⟨hKb, nsK hns, ⟨mb, nsK hb, hbb⟩, let ⟨mc, h1, h2⟩ := hlim; ⟨mc, nsK h1, h2⟩⟩
  have e0 : Env0 P w K mg (hidT s₁.heap H) callerA [] s₁ H := ⟨rfl, hM, fun b o e => of_hidT e, Nat.le_of_eq (hidT_size _ _), trivial, fun b hb => absurd (show b ∈ ([] : List Addr) from hb) (by simp), hok, .of_eq hg⟩
  have hl : vals.length = ps.length := by rw [wellAll_len hwl]; exact hlen
  refine codeAny_mono ((F _ hKb (nsK hns)).run callerA [] s₁ H ⟨vals, []⟩ vals (vals.map toV) _ _ hr e0 (hbind s₁ vals hl) hV (hsp H _ hO hS)) fun r s' x => ?_
  cases r with
  | error e => exact (hCX H e s' x).elim
  | ok fl =>
    cases fl with
    | next => exact False.elim x
    | brk => exact False.elim x
    | cont => exact False.elim x
    | ret u =>
      obtain ⟨v, H', os, bare, un, hok', r', q⟩ := x
      have kept : ∀ b o, s₁.heap.get? b = some o → s'.heap.get? b = some o := fun b o e => by
        cases q2 : H b with
        | none => exact un.keep b o e q2 (by intro z; exact absurd (show b ∈ ([] : List Addr) from z) (by simp)) (by simp)
        | some u2 =>
          rcases hO b with z | ⟨ob, u3, z⟩
          · rw [q2] at z
            cases z
          · have z2 := un.frzs b ob _ z
            obtain ⟨e1, _⟩ := hok b _ z
            obtain ⟨e2, _⟩ := hok' b _ z2
            rw [e] at e1
            cases e1
            exact e2
      have KX' : K.In s'.heap := fun b o e => kept b o (KX b o e)
      obtain ⟨as, hrd⟩ := Dw.reads (R := R) (cl := cl) hok' KX' d0 v u q r'
      exact ⟨u, as, rfl, hrd, OldK.of_keep kept, os, bare⟩
theorem layable_weight {ds : List WData} (h : WData.layableAll ds = true) : ∀ d ∈ ds, d.weight ≤ 1048576 := fun d hd =>
  (PySem.W.layableW_iff.mp (List.all_eq_true.mp h d hd)).2.2
theorem encAll_len : ∀ (cs : List Codec) (a : Codec.denoteAll cs), (Codec.encAll cs a).length = cs.length
  | [], _ => rfl
  | c :: cs, a => by
    show (Codec.encAll cs a.2).length + 1 = cs.length + 1
    rw [encAll_len cs a.2]
theorem walk_spec {r : OpenSpec} {k : Nat} {q : Program} {loose : List Str} {XP : (Str → Option Value) → Heap → Prop} {YP : World → Heap → Prop} {d : DefRec} {K : Params → PySem.W.Frag} {CX : World → CXT} {ps : List Str} {sp : World → Sp}
    (hwell : r.wellSaid = true) (hdf : d.params.defaults = []) (hlen : r.args.length = ps.length) (hr : Room k callerA)
    (hY : ∀ (w : World) (h : Heap), YP w h → (K w.params).In h)
    (F : ∀ (w : World) (mg : Str → Option Value) (fa : Addr) (h : Heap), YP w h → (K w.params).In h → h.Ns mainGlobals mg → mg d.name = some (.ref fa) →
      ∃ fd : FuncData, (∀ (s : Shared) (us : List Value), us.length = ps.length → BindsTo s fd ⟨us, []⟩ (ps.zip us)) ∧
        ∀ base : Heap, (K w.params).In base → base.Ns mainGlobals mg → FnOk r.prog w (K w.params) mg base (CX w) k fa fd ps (sp w))
    (hsp : ∀ (w : World) (H : Hp) (xs : List V) (a : Codec.denoteAll r.args), OnlyF H → Codec.withinAll r.args a = true → Codec.app r.args r.asked a = true → DwAll (K w.params) H xs (Codec.encAll r.args a) →
      sp w xs H (fun v H' => Dw (K w.params) H' v (r.ret.enc (Codec.app r.args r.f a))) fun _ _ _ => False)
    (hCX : ∀ (w : World) (H : Hp) (s : Shared) (e : Value) (s' : Shared), CX w [] H s (fun _ _ _ => False) e s' → False) :
    PySem.W.WalkOS q loose XP YP r d [] (fun f vs => PySem.call f vs) := by
  intro w s_0 s₁ mg mb G Y fa o pm cd doc dV kV ho hd hcd hD hmg hg args vals as hpre hlay hrd hwl hlo
  obtain ⟨a, e1, e2⟩ := PySem.W.os_pre_some hpre
  obtain ⟨e3, hwi⟩ := Codec.encAll_of_decAll r.args args a e1
  subst e3
  have KX := hY w _ Y
  obtain ⟨fd, hb, hF⟩ := F w mg fa _ Y KX G.T.g hmg
  refine PySem.W.enter_call (codeAny_mono (spec_call (R := []) (cl := classAt s_0.heap) (d0 := r.ret.enc (Codec.app r.args r.f a)) KX G.T.g G.T.b G.T.builtins G.T.nolimit hg hwl (pl_encAll _ _) (layable_weight hlay) hr hF hb (by rw [encAll_len]; exact hlen)
    (fun H xs hO hS => hsp w H xs a hO hwi e2 hS) fun H e s' => hCX w H s₁ e s') fun r' s' hq => ?_)
  obtain ⟨u, as', rfl, h1, h2, h3, h4⟩ := hq
  exact ⟨.inl ⟨u, _, as', rfl, fun _ => rfl, h1, (OpenSpec.post_iff hwell hwi _ _).mpr rfl, fun z => Bool.noConfusion (show false = true from z)⟩, h2, h3, h4⟩
theorem walk_specK {r : OpenSpec} {k : Nat} {q : Program} {loose : List Str} {XP : (Str → Option Value) → Heap → Prop} {YP : World → Heap → Prop} {d : DefRec} {K : Params → PySem.W.Frag} {CX : CXT} {ps : List Str} {sp : PySem.W.Frag → Sp}
    (hwell : r.wellSaid = true) (hdf : d.params.defaults = []) (hlen : r.args.length = ps.length) (hr : Room k callerA)
    (hY : ∀ (w : World) (h : Heap), YP w h → (K w.params).In h)
    (F : ∀ (w : World) (mg : Str → Option Value) (fa : Addr) (h : Heap), YP w h → (K w.params).In h → h.Ns mainGlobals mg → mg d.name = some (.ref fa) →
      ∃ fd : FuncData, (∀ (s : Shared) (us : List Value), us.length = ps.length → BindsTo s fd ⟨us, []⟩ (ps.zip us)) ∧
        ∀ base : Heap, (K w.params).In base → base.Ns mainGlobals mg → FnOk r.prog w (K w.params) mg base CX k fa fd ps (sp (K w.params)))
    (hsp : ∀ (K : PySem.W.Frag) (H : Hp) (xs : List V) (a : Codec.denoteAll r.args), OnlyF H → Codec.withinAll r.args a = true → Codec.app r.args r.asked a = true → DwAll K H xs (Codec.encAll r.args a) →
      sp K xs H (fun v H' => Dw K H' v (r.ret.enc (Codec.app r.args r.f a))) fun _ _ _ => False)
    (hCX : ∀ (H : Hp) (s : Shared) (e : Value) (s' : Shared), CX [] H s (fun _ _ _ => False) e s' → False) :
    PySem.W.WalkOS q loose XP YP r d [] (fun f vs => PySem.call f vs) :=
  walk_spec (K := K) (CX := fun _ => CX) (sp := fun w => sp (K w.params)) hwell hdf hlen hr hY F (fun w H xs a h1 h2 h3 h4 => hsp (K w.params) H xs a h1 h2 h3 h4) fun _ H s e s' => hCX H s e s'
end L2
end

section
namespace L2
open PySem PySem.Spec PyProof.Rows
theorem Sz.bits {n : Nat} {i : Int} (h : Sz n i) : Builtin.Int.intBits i ≤ n := by
  unfold Sz at h
  unfold Builtin.Int.intBits
  split
  · exact Nat.zero_le _
  · rename_i c
    have c0 : i ≠ 0 := by simpa using c
    have : i.natAbs.log2 < n := (Nat.log2_lt (by omega)).mpr h
    omega
noncomputable def CMulB (i j : Int) : Prop := ∃ m n, Sz m i ∧ Sz n j ∧ m + n ≤ 100000000
noncomputable def CDivB (_i j : Int) : Prop := 0 < j ∧ j.natAbs.log2 < 9000
noncomputable def CShlB (i j : Int) : Prop := 0 ≤ j ∧ ∃ m : Nat, Sz m i ∧ (m : Int) + j ≤ 100000000
theorem CMulB.ok {i j : Int} (h : CMulB i j) : IntMulOk i j := by
  obtain ⟨m, n, h1, h2, h3⟩ := h
  exact IntMulOk.of_le h1.bits h2.bits (by omega)
section
variable {X : Cx}
theorem op_mulB : OpR X (binaryOp .Mult) (rI CMulB fun i j => .int (i * j)) := opI fun _ _ _ _ _ _ _ hc q => mul_int q hc.ok
theorem iop_mulB : OpR X (inplaceOp .Mult) (rI CMulB fun i j => .int (i * j)) := opI fun _ _ _ _ _ _ _ hc q => imul_int q hc.ok
theorem op_fdivB : OpR X (binaryOp .FloorDiv) (rI CDivB fun i j => .int (i / j)) := opI fun i j _ _ _ _ _ hc q => by
  have h1 : (0 : Int) < j := hc.1
  exact floordiv_int (by omega) (by rw [Int.fdiv_eq_ediv_of_nonneg i (by omega)]; exact q) (.inl (PyProof.noPylong_of_log2 hc.2))
theorem iop_fdivB : OpR X (inplaceOp .FloorDiv) (rI CDivB fun i j => .int (i / j)) := opI fun i j _ _ _ _ _ hc q => by
  have h1 : (0 : Int) < j := hc.1
  exact ifloordiv_int (by omega) (by rw [Int.fdiv_eq_ediv_of_nonneg i (by omega)]; exact q) (.inl (PyProof.noPylong_of_log2 hc.2))
theorem op_shlB : OpR X (binaryOp .LShift) (rI CShlB fun i j => .int (i * 2 ^ j.toNat)) := opI fun i j _ _ _ _ _ hc q => by
  obtain ⟨h0, m, h1, h2⟩ := hc
  have := h1.bits
  exact lshift_int h0 (by omega) q
theorem pip_of {op : Operator} {r : R2} (h : OpR X (inplaceOp op) r) : PIp X op r := h
theorem pe_globE {x : Str} {v : V} {pos : Pos} (hg : Gl X x) (h : ∃ u, X.mg x = some u ∧ RelV v u) (hd : (x == ("__debug__" : Str)) = false := by decide) : PE X (.Name x pos) (tC v) := by
  obtain ⟨u, h1, h2⟩ := h
  exact pe_glob hg h1 h2 hd
end
noncomputable def seqC (T : String) (o : Obj) (xs : List V) : Bool := (match o.cls with | .type n => n == T | _ => false) && o.dict.isNone && (match o.data with | .seq its _ => decide (its.size ≤ 1000) && decide (its.toList.map absV = xs.map some) | _ => false)
noncomputable abbrev seqTC := seqC "tuple"
theorem vals_abs : ∀ {us : List Value} {xs : List V}, us.map absV = xs.map some → Vals xs us
  | [], [], _ => .nil
  | [], _ :: _, e => by simp at e
  | _ :: _, [], e => by simp at e
  | u :: us, x :: xs, e => by
    rw [List.map_cons, List.map_cons] at e
    injection e with e1 e2
    refine .cons ?_ (vals_abs e2)
    cases u <;> simp [absV] at e1 <;> subst e1 <;> first | rfl | exact ⟨_, rfl⟩
theorem seqC_get {T : String} {o : Obj} {xs : List V} (h : seqC T o xs = true) : o.cls = .type T ∧ o.dict = none ∧ ∃ its n, o.data = .seq its n ∧ its.size ≤ sizeLine ∧ Vals xs its.toList := by
  unfold seqC at h
  rw [Bool.and_eq_true, Bool.and_eq_true] at h
  obtain ⟨⟨h1, h2⟩, h3⟩ := h
  refine ⟨?_, by simpa using h2, ?_⟩
  · split at h1
    · rename_i e
      rw [e]
      rw [beq_iff_eq.mp h1]
    · cases h1
  · split at h3
    · rename_i its n e
      rw [Bool.and_eq_true, decide_eq_true_eq, decide_eq_true_eq] at h3
      exact ⟨its, n, e, Nat.le_trans h3.1 (by decide), vals_abs h3.2⟩
    · cases h3
theorem seqT_of {K : PySem.W.Frag} {H : Hp} {a : Addr} {o : Obj} {xs : List V} (h : K.lookup a = some o) (i : seqTC o xs = true) : SqT K H a xs := by
  obtain ⟨h1, h2, its, n, h3, h4, h5⟩ := seqC_get i
  exact .inr ⟨o, its, n, h, h1, h3, h4, h5⟩
theorem Same.refl2 {H : Hp} : Same H H := fun _ _ h => h
theorem Same.new {H : Hp} {p : Addr} {o : HO} (hp : H p = none) : Same H (upd H p o) := fun b u e => by
  rw [upd_ne (ne_of_none e hp)]; exact e
theorem leaf {Q : VK} {H H' : Hp} {v x : V} (k : ∀ H', Same H H' → Q v H') (s : Same H H') (e : v = x) : Q x H' := by
  subst e; exact k _ s
end L2
namespace L2
open PySem PySem.Spec PyProof.Rows
theorem iteB {b : Bool} {A B : Prop} (h1 : b = true → A) (h2 : b = false → B) : if b = true then A else B := by
  cases b
  · rw [if_neg (by decide)]; exact h2 rfl
  · rw [if_pos rfl]; exact h1 rfl
theorem inV_int (c : Int) (l : List V) : inV (.int c) l = l.any fun y => eqV y (.int c) := rfl
theorem eqV_int (a c : Int) : eqV (.int a) (.int c) = decide (c = a) := by
  show (a == c) = _
  by_cases h : a = c
  · subst h; simp
  · have h2 : ¬ c = a := fun e => h e.symm
    simp [h, h2]
noncomputable def valI : List (Int × V) → Int → Option V
  | [], _ => none
  | (a, v) :: r, k => if a = k then some v else valI r k
end L2
namespace L2
open PySem PySem.Spec PyProof.Rows
noncomputable def entC (e : DictEntry) (p : Int × V) : Bool := (match e.key with | .int k _ => decide (k = p.1) && decide (e.hash = hashInt k) | _ => false) && decide (absV e.val = some p.2)
noncomputable def entsC : List DictEntry → List (Int × V) → Bool
  | [], [] => true
  | e :: es, p :: ps => entC e p && entsC es ps
  | _, _ => false
noncomputable def dictC (o : Obj) (kvs : List (Int × V)) : Bool := (match o.cls with | .type n => n == "dict" | _ => false) && o.dict.isNone && decide (o.slots.size = 0) && (match o.data with | .dict es _ => entsC es.toList kvs | _ => false)
noncomputable def DictK (K : PySem.W.Frag) (a : Addr) (kvs : List (Int × V)) : Prop := ∃ o, K.lookup a = some o ∧ dictC o kvs = true
theorem dict_of {K : PySem.W.Frag} {a : Addr} {o : Obj} {kvs : List (Int × V)} (h : K.lookup a = some o) (i : dictC o kvs = true) : DictK K a kvs := ⟨o, h, i⟩
theorem rel_abs {u : Value} {x : V} (e : absV u = some x) : RelV x u := by
  cases u <;> simp [absV] at e <;> subst e <;> first | rfl | exact ⟨_, rfl⟩
theorem entC_get {e : DictEntry} {p : Int × V} (h : entC e p = true) : (∃ t, e.key = .int p.1 t) ∧ e.hash = hashInt p.1 ∧ RelV p.2 e.val := by
  unfold entC at h
  rw [Bool.and_eq_true, decide_eq_true_eq] at h
  obtain ⟨h1, h2⟩ := h
  split at h1
  · rename_i k t ek
    rw [Bool.and_eq_true, decide_eq_true_eq, decide_eq_true_eq] at h1
    obtain ⟨e1, e2⟩ := h1
    subst e1
    exact ⟨⟨t, ek⟩, e2, rel_abs h2⟩
  · cases h1
theorem ents_keys : ∀ {es : List DictEntry} {kvs : List (Int × V)}, entsC es kvs = true → ∀ e ∈ es, ∃ k : Int, Value.isInt k e.key = true ∧ e.hash = hashInt k
  | [], _, _, e, he => by cases he
  | a :: es, [], h, _, _ => by cases h
  | a :: es, p :: ps, h, e, he => by
    have h : (entC a p && entsC es ps) = true := h
    rw [Bool.and_eq_true] at h
    rcases List.mem_cons.mp he with q | q
    · subst q
      obtain ⟨⟨t, ek⟩, hh, _⟩ := entC_get h.1
      exact ⟨p.1, by rw [ek]; simp [Value.isInt], hh⟩
    · exact ents_keys h.2 e q
theorem ents_find : ∀ {es : List DictEntry} {kvs : List (Int × V)} {k : Int} {v : V}, entsC es kvs = true → valI kvs k = some v → ∃ u, (es.find? fun e => Value.isInt k e.key).map (·.val) = some u ∧ RelV v u
  | [], [], _, _, _, e => by cases e
  | [], _ :: _, _, _, h, _ => by cases h
  | _ :: _, [], _, _, h, _ => by cases h
  | a :: es, p :: ps, k, v, h, e => by
    have h : (entC a p && entsC es ps) = true := h
    rw [Bool.and_eq_true] at h
    obtain ⟨⟨t, ek⟩, _, rv⟩ := entC_get h.1
    have e : (if p.1 = k then some p.2 else valI ps k) = some v := e
    by_cases c : p.1 = k
    · rw [if_pos c] at e
      cases e
      have q : Value.isInt k a.key = true := by rw [ek, c]; simp [Value.isInt]
      rw [List.find?_cons, q]
      exact ⟨_, rfl, rv⟩
    · rw [if_neg c] at e
      have q : Value.isInt k a.key = false := by rw [ek]; simp [Value.isInt, c]
      rw [List.find?_cons, q]
      exact ents_find h.2 e
theorem dictK_map {X : Cx} {pins : List (Addr × Obj)} {σ : St} {H : Hp} {s : Shared} {a : Addr} {kvs : List (Int × V)} (I : Inv X pins σ H s) (d : DictK X.K a kvs) :
    ∃ es, entsC es kvs = true ∧ s.heap.MapOf (intKind X.prog X.w) a (fun k => (es.find? fun e => Value.isInt k e.key).map (·.val)) := by
  obtain ⟨o, h1, h2⟩ := d
  have g := I.kIn _ _ h1
  unfold dictC at h2
  rw [Bool.and_eq_true, Bool.and_eq_true, Bool.and_eq_true, decide_eq_true_eq] at h2
  obtain ⟨⟨⟨c1, c2⟩, c3⟩, c4⟩ := h2
  have cl : o.cls = .type "dict" := by
    split at c1
    · rename_i e
      rw [e, beq_iff_eq.mp c1]
    · cases c1
  split at c4
  · rename_i es ep ed
    refine ⟨es.toList, c4, o, es, ep, g, ⟨cl, by simpa using c2, by simpa using c3⟩, ed, fun e he => ents_keys c4 e (by simpa using he), fun k => ?_⟩
    unfold findBy
    rw [← Array.find?_toList]
    rfl
  · cases c4
theorem isInt_self (k : Int) (t : Tok) : Value.isInt k (.int k t) = true := by simp [Value.isInt]
noncomputable def tDGetK (K : PySem.W.Frag) (td ty : TE) : TE := fun σ H Q => td σ H fun x H1 => ty σ H1 fun y H2 => ∃ a v, x = .ref a ∧ ∃ kvs k, DictK K a kvs ∧ y = .int k ∧ valI kvs k = some v ∧ Q v H2
theorem pe_dgetK {X : Cx} {o i : Expr} {pos : Pos} {td ty : TE} (_hu : X.A.units + 1 < cLine) (ho : PE X o td) (hi : PE X i ty) (hs : NoSl i) : PE X (.Subscript o i pos) (tDGetK X.K td ty) := by
  intro pins s σ H Q I h
  refine subD_of PySem.F.slot_dict_getitem.lookup hs (thn (ho pins s σ H _ I h) fun u s1 ⟨x, H1, I1, rx, q1⟩ => thn (hi pins s1 σ H1 _ I1 q1) fun iv s2 ⟨y, H2, I2, ry, a, v, ex, kvs, k, dk, ey, g, q2⟩ => ?_)
  subst ex
  subst ey
  obtain rfl : u = Value.ref a := rx
  obtain ⟨t, rfl⟩ := ry
  obtain ⟨es, he, hm⟩ := dictK_map I2 dk
  obtain ⟨w', hw, rw'⟩ := ents_find he g
  exact ⟨hm.typeIs, wpAny_getItem_of (knd := intKind X.prog X.w) (k := k) (isInt_self k t) hm hw ⟨v, H2, I2.tok _, rw', q2⟩⟩
section
variable {X : Cx}
end
end L2
namespace L2
open PySem PySem.Spec PyProof.Rows
end L2
namespace L2
open PySem PySem.Spec PyProof.Rows
end L2
end
section
namespace L2
open PySem PySem.Spec PyProof.Rows
open AutoSeq1 (wpAny_loadPart')
section
variable {prog : Program} {w : World} {A : Around} {E : Value → Shared → Prop} {s : Shared}
end
end L2
end
section
namespace L2
open PySem PySem.Spec PyProof.Rows
section
variable {X : Cx}
theorem op_eqI : OpR X (compareOp .Eq) (rI0 fun i j => .bl (decide (i = j))) := by
  intro pins s σ H x y v u Q I rx ry h
  obtain ⟨i, j, rfl, rfl, q⟩ := h
  refine op_eq pins s σ H _ _ v u Q I rx ry ⟨rfl, ?_⟩
  have e : decide (V.int i = V.int j) = decide (i = j) := by rw [Bool.eq_iff_iff]; simp
  rw [e]; exact q
theorem op_neI : OpR X (compareOp .NotEq) (rI0 fun i j => .bl (decide (¬ i = j))) := by
  intro pins s σ H x y v u Q I rx ry h
  obtain ⟨i, j, rfl, rfl, q⟩ := h
  refine op_ne pins s σ H _ _ v u Q I rx ry ⟨rfl, ?_⟩
  have e : (!decide (V.int i = V.int j)) = decide (¬ i = j) := by rw [Bool.eq_iff_iff]; simp
  rw [e]; exact q
theorem inV_ints (i : Int) : ∀ xs : List Int, inV (.int i) (xs.map V.int) = decide (i ∈ xs)
  | [] => by rw [inV_int]; simp
  | x :: xs => by
    have ih := inV_ints i xs
    rw [inV_int] at ih ⊢
    rw [List.map_cons, List.any_cons, ih, eqV_int, Bool.eq_iff_iff]
    simp
theorem flat_ints : ∀ xs : List Int, (xs.map V.int).all flatV = true
  | [] => rfl
  | x :: xs => by rw [List.map_cons, List.all_cons, flat_ints xs]; rfl
theorem op_inI : OpR X (compareOp .In) (fun x y H Q => ∃ (i : Int) (p : Addr) (xs : List Int), x = .int i ∧ y = .ref p ∧ SqT X.K H p (xs.map V.int) ∧ Q (.bl (decide (i ∈ xs))) H) := by
  intro pins s σ H x y v u Q I rx ry h
  obtain ⟨i, p, xs, rfl, rfl, hq, q⟩ := h
  refine op_in_seq pins s σ H _ _ v u Q I rx ry ⟨p, _, rfl, .inr hq, rfl, flat_ints xs, ?_⟩
  rw [if_neg (by decide), inV_ints]; exact q
theorem op_notInI : OpR X (compareOp .NotIn) (fun x y H Q => ∃ (i : Int) (p : Addr) (xs : List Int), x = .int i ∧ y = .ref p ∧ SqT X.K H p (xs.map V.int) ∧ Q (.bl (decide (¬ i ∈ xs))) H) := by
  intro pins s σ H x y v u Q I rx ry h
  obtain ⟨i, p, xs, rfl, rfl, hq, q⟩ := h
  refine op_notIn_seq pins s σ H _ _ v u Q I rx ry ⟨p, _, rfl, .inr hq, rfl, flat_ints xs, ?_⟩
  have e : (!inV (.int i) (xs.map V.int)) = decide (¬ i ∈ xs) := by rw [inV_ints, Bool.eq_iff_iff]; simp
  rw [if_pos rfl, e]; exact q
theorem bits_eq (i : Int) : ((Builtin.Int.intBits i : Nat) : Int) = bitsI i := by
  unfold Builtin.Int.intBits bitsI
  by_cases h : i = 0
  · subst h; rfl
  · simp [h]
theorem mt_bits : MtR X "int.bit_length" (fun x xs H Q => ∃ i, x = .int i ∧ xs = [] ∧ Q (.int (bitsI i)) H) := by
  intro pins s σ H x xs v us Q I rx rv h
  obtain ⟨i, rfl, rfl, q⟩ := h
  cases rv
  obtain ⟨t, rfl⟩ := rx
  exact call_int_bit_length ⟨.int (bitsI i), H, I.tok _, ⟨_, by rw [← bits_eq]⟩, q⟩
end
noncomputable def rf (t b : Int) : List (Str × V) := putF "bottom" (.int b) (putF "top" (.int t) [])
theorem rf_top (t b : Int) : (rf t b).lookup ("top" : Str) = some (.int t) := by
  unfold rf
  rw [lookup_putF, if_neg (by decide +kernel), lookup_putF, if_pos rfl]
theorem rf_bottom (t b : Int) : (rf t b).lookup ("bottom" : Str) = some (.int b) := by
  unfold rf
  rw [lookup_putF, if_pos rfl]
noncomputable def RatAt (C : Addr) (H : Hp) (a : Addr) (t b : Int) : Prop := ∃ dx, H a = some (.ins C dx (rf t b))
theorem RatAt.keep {C : Addr} {H H' : Hp} {a : Addr} {t b : Int} (s : Same H H') (h : RatAt C H a t b) : RatAt C H' a t b := h.imp fun _ e => s _ _ e
noncomputable def sp_Ratio_init (C : Addr) : Sp := fun vs H Q _ => ∃ (p dx : Addr) (t b : Int), vs = [.ref p, .int t, .int b] ∧ H p = some (.ins C dx []) ∧ ∀ H' : Hp, RatAt C H' p t b → (∀ a o, H a = some o → a ≠ p → H' a = some o) → Q .non H'
theorem make_Ratio {C : Addr} {H : Hp} {Q : VK} {E : XK} {t b : Int} (k : ∀ (H' : Hp) (p : Addr), Same H H' → RatAt C H' p t b → Q (.ref p) H') :
    ∀ x dx, H x = none → H dx = none → dx ≠ x → sp_Ratio_init C (.ref x :: ([.int t, .int b] ++ [])) (upd (upd H dx (.own x)) x (.ins C dx [])) (fun v H2 => v = .non ∧ Q (.ref x) H2) E := by
  intro x dx hx hd _
  exact ⟨x, dx, t, b, rfl, upd_same, fun H' hr kp => ⟨rfl, k _ _ (Same.made hx hd kp) hr⟩⟩
theorem fld_top {K : PySem.W.Frag} {C : Addr} {H : Hp} {a : Addr} {t b : Int} {Q : V → Prop} (h : RatAt C H a t b) (c : Cls K C) (n : NoAttr K C "top") (q : Q (.int t)) :
    ∃ (a' : Addr) (C' dx : Addr) (fs : List (Str × V)) (v : V), V.ref a = V.ref a' ∧ H a' = some (.ins C' dx fs) ∧ Cls K C' ∧ NoAttr K C' "top" ∧ fs.lookup ("top" : Str) = some v ∧ Q v := by
  obtain ⟨dx, h⟩ := h
  exact ⟨a, C, dx, _, _, rfl, h, c, n, rf_top _ _, q⟩
theorem fld_bottom {K : PySem.W.Frag} {C : Addr} {H : Hp} {a : Addr} {t b : Int} {Q : V → Prop} (h : RatAt C H a t b) (c : Cls K C) (n : NoAttr K C "bottom") (q : Q (.int b)) :
    ∃ (a' : Addr) (C' dx : Addr) (fs : List (Str × V)) (v : V), V.ref a = V.ref a' ∧ H a' = some (.ins C' dx fs) ∧ Cls K C' ∧ NoAttr K C' "bottom" ∧ fs.lookup ("bottom" : Str) = some v ∧ Q v := by
  obtain ⟨dx, h⟩ := h
  exact ⟨a, C, dx, _, _, rfl, h, c, n, rf_bottom _ _, q⟩
theorem leafR {C : Addr} {Q : VK} {H H' : Hp} {p : Addr} {v u : Int × Int} (k : ∀ (H' : Hp) (p : Addr), Same H H' → RatAt C H' p v.1 v.2 → Q (.ref p) H') (s : Same H H') (hp : RatAt C H' p u.1 u.2) (e : v = u) : Q (.ref p) H' := by
  subst e; exact k _ _ s hp
theorem leafP {Q : VK} {H H' : Hp} {p : Addr} {v u : Int × Int} (k : ∀ (H' : Hp) (p : Addr), Same H H' → H' p = some (.lst [.int v.1, .int v.2]) → Q (.ref p) H') (s : Same H H') (hp : H' p = some (.lst [.int u.1, .int u.2])) (e : v = u) : Q (.ref p) H' := by
  subst e; exact k _ _ s hp
theorem leafI {Q : VK} {H' : Hp} {p : Addr} {v u : List Int} (k : ∀ (H' : Hp) (p : Addr), H' p = some (.lst (v.map V.int)) → Q (.ref p) H') (hp : H' p = some (.lst (u.map V.int))) (e : v = u) : Q (.ref p) H' := by
  subst e; exact k _ _ hp
end L2
namespace L2
theorem cmul {m n : Nat} {i j : Int} (h : Sz m i) (g : Sz n j) (l : m + n ≤ 100000000 := by decide) : CMulB i j := ⟨m, n, h, g, l⟩
theorem cdiv {n : Nat} {i j : Int} (h0 : 0 < j) (h : Sz n j) (l : n ≤ 9000 := by decide) (p : 0 < n := by decide) : CDivB i j := ⟨h0, Nat.lt_of_lt_of_le (h.log p) l⟩
theorem cshl {m : Nat} {i j : Int} (h0 : 0 ≤ j) (h : Sz m i) (hj : j ≤ 1000000) (l : m ≤ 1000000 := by decide) : CShlB i j := ⟨h0, m, h, by omega⟩
end L2
end
section
namespace PySem
open PyProof.Rows PySem.W
section
variable {prog : Program} {w : World} {A : Around} {E : Value → Shared → Prop} {s : Shared} {r : Addr}
end
section
variable {prog : Program} {w : World} {A : Around} {s : Shared} {R : Result → Shared → Prop}
variable {I : Addr} {fp wr : List Addr} {G : Array GenState → Array GenState → Prop} {n : Nat} {P : Nat → Value → Prop} {St : Nat → Shared → Prop}
end
end PySem
namespace L2
open PySem PySem.Spec PyProof.Rows
end L2
end
section
namespace L2
open PySem PySem.Spec PyProof.Rows
theorem call_lenI {X : Cx} : CallR X (.builtin "len") (fun vs H Q => ∃ (p : Addr) (xs : List Int), vs = [.ref p] ∧ SqL X.K H p (xs.map V.int) ∧ Q (.int ((xs.length : Nat) : Int)) H) := by
  intro pins s σ H vs us Q I r h
  obtain ⟨p, xs, e, hq, q⟩ := h
  refine call_len_seq pins s σ H vs us Q I r ⟨p, _, e, .inl hq, ?_⟩
  rw [List.length_map]
  exact q
end L2
namespace L2
open PySem PySem.Spec PyProof.Rows
end L2
end
section
namespace L2
open PySem PySem.Spec PyProof.Rows
end L2
namespace L2
end L2
end
section
namespace L2
open PySem PySem.Spec PyProof.Rows
noncomputable abbrev bmV : List Value := [.type "ValueError", .type "Exception", .type "BaseException", .type "object"]
noncomputable def strKeysB (o : Obj) : Bool := match o.data with
  | .dict es _ => es.toList.all fun e => match e.key with | .str _ _ => true | _ => false
  | _ => false
structure XCls (K : PySem.W.Frag) (C f : Addr) : Prop where
  obj : ∃ nm q N bs sn sub ab col dd k0 k1 k2 k3 k5 oN, K.lookup C = some (excClassObj nm q C N bs bmV true sn sub ab col dd k0 k1 k2 k3 k5 "ValueError.__new__") ∧
    K.lookup N = some oN ∧ strKeysB oN = true ∧ PySem.W.nsIn K N "__init__" = some (some (.ref f))
  fn : PySem.W.isFn K (.ref f) = true
  kp : PySem.W.keepIn K (.ref C) = true
  sa : PySem.W.findIn K (.ref C) "__setattr__" = some (some (.builtin "object.__setattr__"))
  ga : PySem.W.findIn K (.ref C) "__getattribute__" = some (some (.builtin "BaseException.__getattribute__"))
  gh : PySem.W.findIn K (.ref C) "__getattr__" = some none

theorem ns_in {K : PySem.W.Frag} {h : Heap} (X : K.In h) {N : Addr} {o : Obj} (e : K.lookup N = some o) (k : strKeysB o = true) : h.Ns N (h.nsMap N) := by
  refine .of_isNs ?_
  unfold Heap.isNs
  rw [X _ _ e]
  dsimp only
  unfold strKeysB at k
  split at k
  · rename_i es n q
    rw [q]
    dsimp only
    rw [← Array.all_toList]
    exact k
  · cases k
theorem nsMap_in {K : PySem.W.Frag} {h : Heap} (X : K.In h) {N : Addr} {name : Str} {v : Value} (e : PySem.W.nsIn K N name = some (some v)) : h.nsMap N name = some v := by
  unfold PySem.W.nsIn at e
  split at e
  · rename_i c d es n sl q
    unfold Heap.nsMap
    rw [X _ _ q]
    dsimp only
    split at e
    · rename_i en he
      cases e
      unfold nsFind findBy
      rw [← Array.find?_toList, he]
      rfl
    · split at e <;> cases e
  · cases e

theorem XCls.cls {K : PySem.W.Frag} {C f : Addr} (x : XCls K C f) : ∃ cd, PySem.W.clsIn K C = some cd ∧ cd.mro = .ref C :: bmV ∧ cd.hasDict = true := by
  obtain ⟨nm, q, N, bs, sn, sub, ab, col, dd, k0, k1, k2, k3, k5, oN, e, _⟩ := x.obj
  exact ⟨_, by unfold PySem.W.clsIn; rw [e], rfl, rfl⟩
theorem XCls.hd {K : PySem.W.Frag} {C f : Addr} (x : XCls K C f) : PySem.W.hasDictIn K C = true := by
  obtain ⟨cd, e, _, h⟩ := x.cls
  unfold PySem.W.hasDictIn
  rw [e]; exact h
theorem bm_object : bmV.contains (.type "object") = true := by decide +kernel
theorem bm_base : bmV.contains (.type "BaseException") = true := by decide +kernel

section
variable {prog : Program} {w : World} {A : Around} {E : Value → Shared → Prop} {s : Shared} {K : PySem.W.Frag} {p C f : Addr} {name : Str} {v : Value}
theorem x_sub {M : Model} {h : Heap} {ox : Obj} {od : Option Obj} {T : Value} (X : K.In h) (x : XCls K C f) (J : PySem.W.InstAt h p ox C od) (hc : (Value.ref C :: bmV).contains T = true) :
    PySem.W.Looks M h (isInstance (.ref p) T) true := by
  obtain ⟨cd, hcd, hm, _⟩ := x.cls
  refine J.type.andThen (PySem.W.looks_mroIn X ?_)
  unfold PySem.W.mroIn
  rw [hcd, Option.bind_some, hm, if_neg (by simp), hc]

theorem xset {vs : Array Value} {Q : Unit → Shared → Prop} (X : K.In s.heap) (x : XCls K C f) (n : NoAttr K C name) (hx : s.heap.get? p = some ⟨.ref C, none, .fields vs, #[]⟩)
    (h : ∀ h', h'.Ns1 s.heap.objs.size (fun y => if y = name then some v else none) → h'.get? p = some ⟨.ref C, some s.heap.objs.size, .fields vs, #[]⟩ → (∀ b o, b ≠ p → s.heap.get? b = some o → h'.get? b = some o) →
      Q () { s with heap := h', toks := s.toks + 2 }) : wpAny (model prog w) A (setAttr (.ref p) name v) Q E s := by
  have J : PySem.W.InstAt s.heap p ⟨.ref C, none, .fields vs, #[]⟩ C none := ⟨hx, rfl, rfl, True.intro⟩
  have SF := PySem.F.store_object
  obtain ⟨cd, hcd, hm, hdd⟩ := x.cls
  have hml : PySem.W.Looks (model prog w) s.heap (mroOf (.ref C)) (.ref C :: bmV) := hm ▸ (PySem.W.looks_clsIn X hcd).andThen .now
  refine PySem.W.set_plain X J x.sa ?_
  have hps := PySem.F.store_ValueError.passes (.ref p)
  have sub := x_sub (M := model prog w) X x J (T := .type "object") (by rw [List.contains_cons, bm_object, Bool.or_true])
  refine codeAny_call_builtin SF.slot.plain SF.entry (@PySem.W.check_slot (model prog w) _ _ { s with toks := s.toks + 1 } "object.__setattr__" "object" "__setattr__" (.ref p) [.str name s.toks, v] [] _ SF.kind SF.split sub (SF.args (.ref p) (.str name s.toks) v) ?_)
  rw [PySem.W.osa_eq, refuse_eq]
  refine wpAny_bind (wpAny_bind (PySem.W.Looks.here (s := { s with toks := s.toks + 1 }) J.type (wpAny_bind (PySem.W.Looks.here (s := { s with toks := s.toks + 1 }) hml ?_))))
  rw [refuseLoop_ref, hps]
  refine wpAny_pure (wpAny_bind (PySem.W.Looks.here (s := { s with toks := s.toks + 1 }) J.type (wpAny_bind (PySem.W.Looks.here (s := { s with toks := s.toks + 1 }) (PySem.W.looks_findIn X (show PySem.W.findIn K (.ref C) name = some none from n)) (wpAny_bind (wpAny_pure ?_))))))
  dsimp only
  refine wpAny_bind (wpAny_pure (wpAny_bind (wpAny_bind (wpAny_loadPart (s := { s with toks := s.toks + 1 }) hx (wpAny_bind (PySem.W.Looks.here (s := { s with toks := s.toks + 1 }) (PySem.W.looks_clsIn X hcd) ?_))))))
  rw [hdd]
  have hx1 : (s.heap.push { cls := .type "dict", data := .dict #[] }).get? p = some ⟨.ref C, none, .fields vs, #[]⟩ := Heap.get?_push_of_some _ hx
  have hps' : p ≠ s.heap.objs.size := Nat.ne_of_lt (Heap.lt_size hx)
  refine wpAny_bind (wpAny_alloc (wpAny_bind (wpAny_update (o := ⟨.ref C, none, .fields vs, #[]⟩) hx1 ?_)))
  refine wpAny_pure (a := some s.heap.objs.size) ?_
  have hgd : ((s.heap.push { cls := .type "dict", data := .dict #[] }).update p fun o => { cls := o.cls, dict := some s.heap.objs.size, data := o.data, slots := o.slots }).get? s.heap.objs.size = some { cls := .type "dict", data := .dict #[] } :=
    (Heap.get?_update_other _ _ hps').trans (Heap.get?_push_size _ rfl)
  have hgp : ((s.heap.push { cls := .type "dict", data := .dict #[] }).update p fun o => { cls := o.cls, dict := some s.heap.objs.size, data := o.data, slots := o.slots }).get? p = some ⟨.ref C, some s.heap.objs.size, .fields vs, #[]⟩ := Heap.get?_update_self _ hx1 rfl
  have hnd : ((s.heap.push { cls := .type "dict", data := .dict #[] }).update p fun o => { cls := o.cls, dict := some s.heap.objs.size, data := o.data, slots := o.slots }).Ns1 s.heap.objs.size (fun _ => none) :=
    Heap.Ns1.of_empty ⟨_, #[], _, hgd, rfl, (fun e he => absurd he (by simp)), fun _ => rfl⟩
  dsimp only
  unfold Builtin.ObjectAttr.storeInDict Builtin.ObjectAttr.newKeyGuard
  refine wpAny_bind (wpAny_pure (wpAny_bind (wpAny_nsSet1 hnd fun h' hn' hs => ?_)))
  obtain ⟨oD, esD, epD, hoD, hdD, hcD⟩ := hn'.count (Within.cons name v Within.nil)
  refine wpAny_bind (wpAny_lookBehind hoD (by rw [hdD]; exact pastItsLine_dict (Nat.le_trans hcD (by rw [sizeLine_eq]; simp))) ?_)
  refine wpAny_pure (h h' hn' ((hs.2 p hps').trans hgp) fun b o hb e => ?_)
  exact (hs.2 b (Nat.ne_of_lt (Heap.lt_size e))).trans ((Heap.get?_update_other _ _ (Ne.symm hb)).trans (Heap.get?_push_of_some _ e))

theorem xget {expr : Bool} {dx : Addr} {ox : Obj} {mA : Str → Option Value} {Q : Value → Shared → Prop} (X : K.In s.heap) (x : XCls K C f) (n : NoAttr K C name) (hx : s.heap.get? p = some ox) (hc : ox.cls = .ref C) (hd : ox.dict = some dx)
    {vs : Array Value} (hdt : ox.data = .fields vs) (hn : s.heap.Ns1 dx mA) (hv : mA name = some v) (hh : PySem.W.handedIn v = true) (h : Q v { s with toks := s.toks + 1 }) : wpAny (model prog w) A (getAttr (.ref p) name expr) Q E s := by
  obtain ⟨od, hod, hl⟩ := lookIn_ns hn
  have J : PySem.W.InstAt s.heap p ox C (some od) := ⟨hx, hc, (by unfold PySem.W.notCls; rw [hdt]), (by rw [hd]; exact hod)⟩
  have L1 := PySem.W.looks_find (M := model prog w) X J (PySem.W.findObj_own x.hd n rfl (by rw [hl, hv]))
  have sub := x_sub (M := model prog w) X x J (T := .type "BaseException") (by rw [List.contains_cons, bm_base, Bool.or_true])
  unfold getAttr getAttrBy
  refine wpAny_bind (wpAny_mkText (wpAny_holding (wpAny_bind (PySem.W.Looks.here (s := { s with toks := s.toks + 1 }) J.type (wpAny_bind (PySem.W.Looks.here (s := { s with toks := s.toks + 1 }) (PySem.W.looks_findIn X x.ga) ?_))))))
  have hx2 : (Value.builtin "BaseException.__getattribute__" == Value.builtin "object.__getattribute__") = false := by decide +kernel
  dsimp only
  rw [hx2, Bool.and_false, if_neg Bool.false_ne_true]
  unfold getAttrByItsOwn hookBefore
  rw [if_pos (show onTheHeap (Value.ref C) = true from rfl)]
  refine wpAny_bind (PySem.W.Looks.here (s := { s with toks := s.toks + 1 }) (PySem.W.looks_findIn X x.gh) (wpAny_bind (wpAny_attempt (wpAny_holding ?_))))
  have ho : (expr && onTheHeap (Value.builtin "BaseException.__getattribute__")) = false := by cases expr <;> rfl
  unfold callGetattribute boundAndCalled
  rw [ho, if_neg Bool.false_ne_true, PySem.F.attr_ValueError.ga.bind]
  refine wpAny_bind (wpAny_pure (wpAny_call (codeAny_call_builtin PySem.F.attr_ValueError.ga.plain PySem.F.entry_bexc_ga (@PySem.W.check_slot (model prog w) _ _ { s with toks := s.toks + 1 } "BaseException.__getattribute__" "BaseException" "__getattribute__" (.ref p) [.str name s.toks] [] _ (by decide +kernel) (by decide +kernel) sub (PySem.F.args_bexc_ga (.ref p) (.str name s.toks)) ?_))))
  refine wpAny_bind (wpAny_pure (wpAny_bind (wpAny_pure (wpAny_bind (PySem.W.Looks.here (s := { s with toks := s.toks + 1 }) J.type (wpAny_bind (PySem.W.Looks.here (s := { s with toks := s.toks + 1 }) L1 (wpAny_pure ?_))))))))
  show wpAny _ _ (handedOut v) _ _ _
  rw [PySem.W.handedOut_of hh]
  exact wpAny_pure h
end
noncomputable def FlyT (h0 h : Heap) (H : Hp) (ex C dx : Addr) (fl : Value) : Prop :=
  H ex = none ∧ h0.get? ex = none ∧ ∃ oe vs, h.get? ex = some oe ∧ oe.cls = .ref C ∧ oe.dict = some dx ∧ oe.data = .fields vs ∧
    ∃ T oT ts, vs[1]? = some (.ref T) ∧ H T = none ∧ h0.get? T = none ∧ T ≠ ex ∧ h.get? T = some oT ∧ oT.data = .fields ts ∧ ts[3]? = some fl
noncomputable def FlyN (h0 h : Heap) (H : Hp) (ex C dx : Addr) : Prop :=
  H ex = none ∧ h0.get? ex = none ∧ ∃ oe vs, h.get? ex = some oe ∧ oe.cls = .ref C ∧ oe.dict = some dx ∧ oe.data = .fields vs ∧ vs[1]? = some .none
noncomputable def FlyAt (h0 h : Heap) (H : Hp) (ex C dx : Addr) : Prop := FlyT h0 h H ex C dx .none ∨ FlyN h0 h H ex C dx
theorem FlyT.back {h0 h1 h : Heap} {H : Hp} {ex C dx : Addr} {fl : Value} (F : FlyT h1 h H ex C dx fl) (k : ∀ b, h1.get? b = none → h0.get? b = none) : FlyT h0 h H ex C dx fl := by
  obtain ⟨a, b, oe, vs, c1, c2, c3, c4, T, oT, ts, d1, d2, d3, d4⟩ := F
  exact ⟨a, k _ b, oe, vs, c1, c2, c3, c4, T, oT, ts, d1, d2, k _ d3, d4⟩
structure Kp (h0 : Heap) (H : Hp) (fs : List Addr) (h h' : Heap) : Prop where
  keep : ∀ b o, h.get? b = some o → (H b ≠ none ∨ h0.get? b ≠ none) → b ∉ fs → h'.get? b = some o
  slot : ∀ b o, h.get? b = some o → b ∈ fs → ∃ sl, h'.get? b = some { o with slots := sl }
  there : ∀ b o, h.get? b = some o → ∃ o', h'.get? b = some o'
theorem Kp.trans {h0 : Heap} {H : Hp} {fs : List Addr} {h1 h2 h3 : Heap} (x : Kp h0 H fs h1 h2) (y : Kp h0 H fs h2 h3) : Kp h0 H fs h1 h3 where
  keep := fun b o e c n => y.keep b o (x.keep b o e c n) c n
  slot := fun b o e n => by
    obtain ⟨sl, e1⟩ := x.slot b o e n
    obtain ⟨sl', e2⟩ := y.slot b _ e1 n
    exact ⟨sl', e2⟩
  there := fun b o e => by
    obtain ⟨o1, e1⟩ := x.there b o e
    exact y.there b o1 e1
theorem Kp.hok {P : Program} {w : World} {h0 : Heap} {H : Hp} {fs : List Addr} {h h' : Heap} (x : Kp h0 H fs h h') (k : HOk P w H h) (hf : ∀ b ∈ fs, H b = none) : HOk P w H h' := fun a o e =>
  (k a o e).stay (fun b u hb q => by
    have hn : H b ≠ none := by
      rcases hb with rfl | hb
      · rw [e]; exact fun z => nomatch z
      · rw [hb]; exact fun z => nomatch z
    exact x.keep b u q (.inl hn) fun z => hn (hf b z)) (fun _ q => q) fun _ _ q => q
theorem Kp.un {h0 h h' : Heap} {H0 H : Hp} {fs gs : List Addr} (u : Un gs [] H0 H h0 h) (x : Kp h0 H fs h h') (hs : ∀ b o, h0.get? b = some o → b ∈ fs → b ∈ gs) (hf : ∀ b ∈ fs, H b = none) : Un gs [] H0 H h0 h' where
  keep := fun b o e n hb hx => x.keep b o (u.keep b o e n hb hx) (.inr (by rw [e]; exact fun z => nomatch z)) fun z => hb (hs b o e z)
  slot := fun b o e n hb hx => by
    obtain ⟨sl, e1⟩ := u.slot b o e n hb hx
    by_cases z : b ∈ fs
    · obtain ⟨sl', e2⟩ := x.slot b _ e1 z
      exact ⟨sl', e2⟩
    · exact ⟨sl, x.keep b _ e1 (.inr (by rw [e]; exact fun z => nomatch z)) z⟩
  free := u.free
  there := fun b o e hx => by
    obtain ⟨o1, e1⟩ := u.there b o e hx
    exact x.there b o1 e1
  tups := u.tups
  frzs := u.frzs
  tbls := u.tbls

section
variable {M : Model} {A : Around} {E : Value → Shared → Prop} {s : Shared} {base h0 : Heap} {H : Hp} {env : Env} {outer : List Env} {L ex C dx : Addr} {Q : Unit → Shared → Prop}
theorem entry_x {oc : Value} {od : Option Addr} {vs : Array Value} {sl : Array (Option Value)} {head : Value} {had : Bool} (hfr : A.frames = some (env :: outer)) (hl : s.heap.FunFrames base (env :: outer)) (hf : env.frame = some L)
    (he : s.heap.get? ex = some ⟨oc, od, .fields vs, sl⟩) (hz : 1 < vs.size)
    (h : ∀ h', (∀ b o, b ≠ ex → b ∉ frs (env :: outer) → s.heap.get? b = some o → h'.get? b = some o) → (∀ b o, b ∈ frs (env :: outer) → s.heap.get? b = some o → ∃ sl, h'.get? b = some { o with slots := sl }) →
      h'.get? ex = some ⟨oc, od, .fields (vs.setIfInBounds 1 (.ref s.heap.objs.size)), sl⟩ → (∃ oT ts, h'.get? s.heap.objs.size = some oT ∧ oT.data = .fields ts ∧ ts[3]? = some (rawInt L)) → Q () { s with heap := h' }) :
    wpAny M A (do let a ← frameOf env; let pl ← entryPlaceOf L had; let b ← EntryCells.newEntry head a .none (rawInt L) .none pl; setField (.ref ex) 1 b) Q E s := by
  have nex : ex ∉ frs (env :: outer) := fun hm => by
    obtain ⟨_, o, ho, hnf⟩ := hl.mem hm
    rw [he] at ho
    cases ho
    exact hnf vs rfl
  refine wpAny_bind (wpAny_frameOf_fun hfr hl hf fun h1 x1 => wpAny_bind (wpAny_entryPlaceOf fun pl hpl => ?_))
  have e1 : h1.get? ex = some ⟨oc, od, .fields vs, sl⟩ := (x1.2.1 ex nex).trans he
  have sz : h1.objs.size = s.heap.objs.size := x1.1
  unfold EntryCells.newEntry newFields
  refine wpAny_bind (wpAny_newObj_type ?_ (hpl.sizeOk5 _ _ _ _ _))
  refine wpAny_setField (Heap.get?_push_of_some _ e1) rfl hz ?_
  have nT : h1.objs.size ≠ ex := Nat.ne_of_gt (Heap.lt_size e1)
  rw [← sz] at h
  refine h _ (fun b o hb hn e => ?_) (fun b o hn e => ?_) (Heap.get?_update_self _ (Heap.get?_push_of_some _ e1) rfl) ⟨_, _, (Heap.get?_update_other _ _ (Ne.symm nT)).trans (Heap.get?_push_size h1 rfl), rfl, ?_⟩
  · exact (Heap.get?_update_other _ _ (Ne.symm hb)).trans (Heap.get?_push_of_some _ ((x1.2.1 b hn).trans e))
  · obtain ⟨sl', e'⟩ := x1.2.2 b o e
    exact ⟨sl', (Heap.get?_update_other _ _ (fun (z : ex = b) => nex (by rw [z]; exact hn))).trans (Heap.get?_push_of_some _ e')⟩
  · first | rfl | (simp; done) | (rcases hpl with rfl | ⟨_, _, _, _, _, _, _, rfl⟩ <;> simp)

theorem note_x (hfr : A.frames = some (env :: outer)) (hl : s.heap.FunFrames base (env :: outer)) (hf : env.frame = some L) (F : FlyAt h0 s.heap H ex C dx) (fr : ∀ a, s.heap.objs.size ≤ a → H a = none) (th : ∀ b, h0.get? b ≠ none → b < s.heap.objs.size)
    (h : ∀ h', Kp h0 H (frs (env :: outer)) s.heap h' → FlyT h0 h' H ex C dx (rawInt L) → Q () { s with heap := h' }) : wpAny M A (noteFrame (.ref ex) env) Q E s := by
  have fz : h0.get? s.heap.objs.size = none := by
    cases q : h0.get? s.heap.objs.size with
    | none => rfl
    | some o => exact absurd (th _ (by rw [q]; exact fun z => nomatch z)) (Nat.lt_irrefl _)
  unfold noteFrame
  simp only [hf]
  rcases F with ⟨hx, hy, ⟨oc, od, dt, sl⟩, vs, c1, c2, c3, c4, T, oT, ts, d1, d2, d3, d4, d5, d6, d7⟩ | ⟨hx, hy, ⟨oc, od, dt, sl⟩, vs, c1, c2, c3, c4, d1⟩
  · dsimp only at c2 c3 c4
    subst c2 c3 c4
    refine wpAny_bind (wpAny_field c1 rfl d1 ?_)
    rw [if_pos (show (Value.ref T != Value.none) = true from by simp)]
    refine wpAny_bind (wpAny_field d5 d6 d7 ?_)
    rw [if_neg (show ¬ ((Value.none == rawInt L) = true) from by simp [rawInt])]
    refine wpAny_bind (wpAny_setField d5 d6 (Array.getElem?_eq_some_iff.mp d7).1 ?_)
    have oth : ∀ b, b ≠ T → (s.heap.update T (Obj.mapFields (·.setIfInBounds 3 Value.none))).get? b = s.heap.get? b := fun b hb => Heap.get?_update_other _ _ (Ne.symm hb)
    have nT : T ∉ frs (env :: outer) := fun hm => by
      obtain ⟨_, o, ho, hnf⟩ := hl.mem hm
      rw [d5] at ho; cases ho
      exact hnf ts d6
    have nR : ∀ b o, s.heap.get? b = some o → (∀ vs, o.data ≠ .fields vs) → b ≠ T := fun b o e hnf z => by
      rw [z, d5] at e; cases e; exact hnf ts d6
    have sT : (s.heap.update T (Obj.mapFields (·.setIfInBounds 3 Value.none))).objs.size = s.heap.objs.size := Heap.size_after_update ..
    refine entry_x (base := base) hfr (hl.of_keeps fun b o e hnf => ⟨o, (oth b (nR b o e hnf)).trans e, rfl⟩) hf ((oth ex (Ne.symm d4)).trans c1) (Array.getElem?_eq_some_iff.mp d1).1 fun h' k1 k2 k3 k4 => ?_
    dsimp only at k1 k2 k3 k4
    rw [sT] at k3 k4
    have hTT : ∃ o', (s.heap.update T (Obj.mapFields (·.setIfInBounds 3 Value.none))).get? T = some o' := ⟨_, Heap.get?_update_self _ d5 (Obj.isFreed_of_fields (Obj.data_mapFields d6 _))⟩
    refine h h' ⟨fun b o e c n => ?_, fun b o e n => k2 b o n ((oth b fun z => nT (by rw [← z]; exact n)).trans e), fun b o e => ?_⟩ ⟨hx, hy, _, _, k3, rfl, rfl, rfl, s.heap.objs.size, ?_⟩
    · have hb : b ≠ T := fun z => by subst z; exact c.elim (fun c => c d2) fun c => c d3
      have hb2 : b ≠ ex := fun z => by subst z; exact c.elim (fun c => c hx) fun c => c hy
      exact k1 b o hb2 n ((oth b hb).trans e)
    · by_cases hb2 : b = ex
      · subst hb2; exact ⟨_, k3⟩
      · by_cases n : b ∈ frs (env :: outer)
        · obtain ⟨sl', e'⟩ := k2 b o n ((oth b fun z => nT (by rw [← z]; exact n)).trans e)
          exact ⟨_, e'⟩
        · by_cases hb : b = T
          · subst hb
            obtain ⟨o', e'⟩ := hTT
            exact ⟨o', k1 b o' hb2 n e'⟩
          · exact ⟨o, k1 b o hb2 n ((oth b hb).trans e)⟩
    · obtain ⟨oT', ts', q1, q2, q3⟩ := k4
      refine ⟨oT', ts', ?_, fr _ (Nat.le_refl _), fz, Nat.ne_of_gt (Heap.lt_size c1), q1, q2, q3⟩
      simp [(Array.getElem?_eq_some_iff.mp d1).1]
  · dsimp only at c2 c3 c4
    subst c2 c3 c4
    refine wpAny_bind (wpAny_field c1 rfl d1 ?_)
    rw [if_neg (by decide)]
    refine entry_x (base := base) hfr hl hf c1 (Array.getElem?_eq_some_iff.mp d1).1 fun h' k1 k2 k3 k4 => ?_
    refine h h' ⟨fun b o e c n => ?_, fun b o e n => k2 b o n e, fun b o e => ?_⟩ ⟨hx, hy, _, _, k3, rfl, rfl, rfl, s.heap.objs.size, ?_⟩
    · have hb2 : b ≠ ex := fun z => by subst z; exact c.elim (fun c => c hx) fun c => c hy
      exact k1 b o hb2 n e
    · by_cases hb2 : b = ex
      · subst hb2; exact ⟨_, k3⟩
      · by_cases n : b ∈ frs (env :: outer)
        · obtain ⟨sl', e'⟩ := k2 b o n e
          exact ⟨_, e'⟩
        · exact ⟨o, k1 b o hb2 n e⟩
    · obtain ⟨oT', ts', q1, q2, q3⟩ := k4
      refine ⟨oT', ts', ?_, fr _ (Nat.le_refl _), fz, Nat.ne_of_gt (Heap.lt_size c1), q1, q2, q3⟩
      simp [(Array.getElem?_eq_some_iff.mp d1).1]

theorem flight_x {fl : Value} {fs : List Addr} (F : FlyT h0 s.heap H ex C dx fl) (hn : ∀ b ∈ fs, ∃ o, s.heap.get? b = some o ∧ ∀ vs, o.data ≠ .fields vs)
    (h : ∀ h', Kp h0 H fs s.heap h' → FlyT h0 h' H ex C dx .none → Q () { s with heap := h' }) : wpAny M A (setFlight (.ref ex) none) Q E s := by
  obtain ⟨hx, hy, oe, vs, c1, c2, c3, c4, T, oT, ts, d1, d2, d3, d4, d5, d6, d7⟩ := F
  unfold setFlight
  refine wpAny_bind (wpAny_field c1 c4 d1 ?_)
  rw [if_pos (show (Value.ref T != Value.none) = true from by simp)]
  have z3 : 3 < ts.size := (Array.getElem?_eq_some_iff.mp d7).1
  refine wpAny_setField d5 d6 z3 ?_
  have oth : ∀ b, b ≠ T → (s.heap.update T (Obj.mapFields (·.setIfInBounds 3 ((none : Option Addr).elim Value.none fun f => rawInt f)))).get? b = s.heap.get? b := fun b hb => Heap.get?_update_other _ _ (Ne.symm hb)
  have nT : ∀ b ∈ fs, b ≠ T := fun b hb z => by
    obtain ⟨o, ho, hnf⟩ := hn b hb
    rw [z, d5] at ho; cases ho; exact hnf ts d6
  have gT := Heap.get?_update_self (Obj.mapFields (·.setIfInBounds 3 ((none : Option Addr).elim Value.none fun f => rawInt f))) d5 (Obj.isFreed_of_fields (Obj.data_mapFields d6 _))
  refine h _ ⟨fun b o e c n => ?_, fun b o e n => ⟨o.slots, (oth b (nT b n)).trans e⟩, fun b o e => ?_⟩ ⟨hx, hy, oe, vs, (oth ex (Ne.symm d4)).trans c1, c2, c3, c4, T, _, _, d1, d2, d3, d4, gT, Obj.data_mapFields d6 _, by simp [z3]⟩
  · have hb : b ≠ T := fun z => by subst z; exact c.elim (fun c => c d2) fun c => c d3
    exact (oth b hb).trans e
  · by_cases hb : b = T
    · subst hb; exact ⟨_, gT⟩
    · exact ⟨o, (oth b hb).trans e⟩

theorem leaving_x (hfr : A.frames = some (env :: outer)) (hl : s.heap.FunFrames base (env :: outer)) (hf : env.frame = some L) (F : FlyAt h0 s.heap H ex C dx) (fr : ∀ a, s.heap.objs.size ≤ a → H a = none) (th : ∀ b, h0.get? b ≠ none → b < s.heap.objs.size)
    (h : ∀ h', Kp h0 H (frs (env :: outer)) s.heap h' → FlyT h0 h' H ex C dx .none → Q () { s with heap := h' }) : wpAny M A (leaving env (.ref ex)) Q E s := by
  unfold leaving
  refine wpAny_bind (note_x hfr hl hf F fr th fun h1 k1 f1 => flight_x (fs := frs (env :: outer)) f1 (fun b hb => ?_) fun h2 k2 f2 => h h2 (k1.trans k2) f2)
  obtain ⟨_, o, ho, hnf⟩ := hl.mem hb
  obtain ⟨sl, e⟩ := k1.slot b o ho hb
  exact ⟨_, e, hnf⟩
end
end L2
namespace L2
open PySem PySem.Spec PyProof.Rows
noncomputable def CXE (P : Program) (w : World) (C : Addr) (nm : Str) : CXT := fun outer H s E e s' =>
  ∃ ex dx i H', e = .ref ex ∧ s'.os = s.os ∧ AllBare s'.gens ∧ Un (frs outer) [] H H' s.heap s'.heap ∧ HOk P w H' s'.heap ∧ FlyT s.heap s'.heap H' ex C dx .none ∧ H' dx = some (.xd [(nm, .int i)]) ∧ E (.int i 0) none H'
noncomputable def Lets (X : Cx) (C : Addr) (nm : Str) (E : XK) : Prop := ∀ (pins : List (Addr × Obj)) (σ : St) (H : Hp) (s : Shared) (ex dx : Addr) (i : Int), Inv X pins σ H s → FlyAt X.s_0.heap s.heap H ex C dx → H dx = some (.xd [(nm, .int i)]) → E (.int i 0) none H → X.xe (.ref ex) s

theorem Un.gone {fs : List Addr} {H H1 : Hp} {h h1 : Heap} (u : Un fs [] H H1 h h1) : ∀ b, h1.get? b = none → h.get? b = none := fun b e => by
  cases q : h.get? b with
  | none => rfl
  | some o =>
    obtain ⟨o', e'⟩ := u.there b o q (by simp)
    rw [e] at e'; cases e'
theorem Lets.passes {X : Cx} {C : Addr} {nm : Str} {E : XK} (hx : X.ex = []) (l : Lets X C nm E) : Passes (CXE X.prog X.w C nm) X E := by
  rintro pins σ H s e s' I ⟨ex, dx, i, H', rfl, os, bare, un, hok, fly, hdx, he⟩
  have I2 : Inv X pins σ H' s' := I.call' (ch := []) os un hok bare (fun b z => absurd z (by simp))
  refine l pins σ H' s' ex dx i I2 (.inl (fly.back ?_)) hdx he
  intro b e
  have u := I.base
  rw [hx] at u
  exact u.gone b e

theorem lets_cx {P : Program} {w : World} {K : PySem.W.Frag} {mg : Str → Option Value} {base : Heap} {N : List Str} {qual : Str} {scope : Scope} {f : Addr} {cd : Value} {A : Around} {outer : List Env} {s : Shared} {H : Hp} {E : XK} {C : Addr} {nm : Str} :
    Lets (cxOf (CXE P w C nm) P w K mg base N qual scope f cd A outer s H E) C nm E := by
  intro pins σ H1 s1 ex dx i I fly hdx he
  have hth : ∀ b, s.heap.get? b ≠ none → b < s1.heap.objs.size := fun b hb => by
    cases q : s.heap.get? b with
    | none => exact absurd q hb
    | some o => exact Nat.lt_of_lt_of_le (Heap.lt_size q) I.sz
  refine leaving_x (base := base) (h0 := s.heap) (H := H1) (L := s.heap.objs.size) (outer := outer) I.ok.frames I.stack rfl fly (fun a => I.hok.fresh) hth fun h' kp f' => ?_
  have hf : ∀ b ∈ frs (envOfC qual scope s.heap.objs.size f cd :: outer), H1 b = none := I.stkFree
  refine ⟨ex, dx, i, H1, rfl, I.os, I.bare, Kp.un I.base kp (fun b o e z => ?_) hf, kp.hok I.hok hf, f', hdx, he⟩
  rcases List.mem_cons.mp (I.stkSub b z) with z | z
  · exact absurd (Heap.lt_size e) (by rw [z]; exact Nat.lt_irrefl _)
  · exact z

section
variable {P : Program} {w : World} {K : PySem.W.Frag} {mg : Str → Option Value} {base : Heap}
theorem Fun.okX {CX : CXT} {x qual : Str} {st : Stmt} {f : Addr} {fd : FuncData} {N ps : List Str} {k : Nat} {sp : Sp} (F : Fun K x qual st f fd) (S : FnScope N ps (defScope st)) (len : ∀ vs H Q E, sp vs H Q E → vs.length = ps.length)
    (hbody : ∀ (cdv : Value) (A : Around) (outer : List Env) (s : Shared) (H : Hp) (vs : List V) (Q : VK) (E : XK), Room k (A.deeper (envOfC qual (defScope st) s.heap.objs.size f cdv)) → sp vs H Q E →
      ∃ t, PSs (cxOf CX P w K mg base N qual (defScope st) f cdv A outer s H E) (defBody st) t ∧ t { nx := fun _ H' => Q .non H', rt := Q } (start N vs) H) : FnOk P w K mg base CX (k + 1) f fd ps sp := by
  obtain ⟨oc, od, kV, doc, pm, an, cdv, ct, osl, rfl, lk, hcd⟩ := F.ex
  exact fn_of lk hcd S len fun A outer s H vs Q E hr hsp => hbody cdv A outer s H vs Q E hr hsp
end
noncomputable abbrev XN (C p : Addr) (ws : Array Value) : HO := .ext fun h => h.get? p = some ⟨.ref C, none, .fields ws, #[]⟩
noncomputable abbrev XD (C p dx : Addr) (ws : Array Value) : HO := .ext fun h => h.get? p = some ⟨.ref C, some dx, .fields ws, #[]⟩
noncomputable def sXset (K : PySem.W.Frag) (ta tv : TE) (f : Str) : TS := fun D σ H => tv σ H fun y H1 => ta σ H1 fun x H2 => ∃ a C g ws, x = .ref a ∧ H2 a = some (XN C a ws) ∧ XCls K C g ∧ NoAttr K C f ∧
  ∀ dx, H2 dx = none → D.nx σ (upd (upd H2 dx (.xd [(f, y)])) a (XD C a dx ws))
theorem ObjOk.there {P : Program} {w : World} {H : Hp} {h : Heap} {a : Addr} {o : HO} (x : ObjOk P w H h a o) : ∃ ob, h.get? a = some ob := by
  cases o with
  | lst xs => obtain ⟨_, _, _, _, e⟩ := x; exact ⟨_, e⟩
  | tup xs => obtain ⟨_, _, _, o, e, _⟩ := x; exact ⟨_, e⟩
  | dK kvs => obtain ⟨_, _, _, _, o, _, _, e, _⟩ := x; exact ⟨_, e⟩
  | dT kvs => obtain ⟨_, _, _, _, o, _, _, e, _⟩ := x; exact ⟨_, e⟩
  | set S n => obtain ⟨o, _, _, _, e, _⟩ := x; exact ⟨_, e⟩
  | ins C dx fs => obtain ⟨_, _, _, e, _⟩ := x; exact ⟨_, e⟩
  | own y => exact x
  | xd fs => obtain ⟨_, ⟨_, _, _, e, _⟩, _⟩ := x; exact ⟨_, e⟩
  | rng lo hi => obtain ⟨_, _, _, e⟩ := x; exact ⟨_, e⟩
  | frz ob u => obtain ⟨e, _⟩ := x; exact ⟨_, e⟩
  | tbl ps => exact ⟨_, show h.get? a = some _ from x⟩
  | met f y => exact ⟨_, show h.get? a = some _ from x⟩
  | ext φ => exact x.2.1
theorem HOk.none_of {P : Program} {w : World} {H : Hp} {h : Heap} {a : Addr} (x : HOk P w H h) (e : h.get? a = none) : H a = none := by
  cases q : H a with
  | none => rfl
  | some o =>
    obtain ⟨ob, e'⟩ := ObjOk.there (x a o q)
    rw [e] at e'; cases e'

section
variable {X : Cx} {o value : Expr} {f : Str} {pos pos' : Pos} {ta tv : TE}
theorem ps_xset (ha : PE X o ta) (hv : PE X value tv) (hs : swapsWith value (some (.Attribute o f pos')) pos.line X.env = pure false) : PS X (.Assign [.Attribute o f pos'] value pos) (sXset X.K ta tv f) := by
  intro pins s σ H D I h
  refine plainObj_wpAny_Assign_Attribute (thn (hv pins s σ H _ I h) fun u s1 ⟨yv, H1, I1, ry, q⟩ => thn (ha pins s1 σ H1 _ I1 q) fun ov s2 ⟨x, H2, I2, rx, a, C, g, ws, ex, ea, c, n, q2⟩ => ?_) hs
  subst ex
  obtain rfl : ov = Value.ref a := rx
  obtain ⟨hx, _, _⟩ := (show ObjOk X.prog X.w H2 s2.heap a (XN C a ws) from I2.hok a _ ea)
  have hd : H2 s2.heap.objs.size = none := I2.hok.fresh (Nat.le_refl _)
  have hne : s2.heap.objs.size ≠ a := fun z => by rw [z, ea] at hd; cases hd
  refine xset I2.kIn c n hx fun h' k1 k2 k3 => ⟨σ, _, ?_, q2 _ hd⟩
  refine I2.un (t' := s2.toks + 2) ⟨fun b o e z _ _ => k3 b o (fun y => by rw [y, ea] at z; cases z) e, fun b o e z _ _ => ⟨o.slots, k3 b o (fun y => by rw [y, ea] at z; cases z) e⟩, fun b o e z _ => ?_, fun b o e _ => ?_, fun b xs e => ?_, fun b o xs e => ?_, fun b ps e => ⟨#[], ?_⟩⟩ fun b o e => ?_
  · rw [upd_ne (fun y => by rw [y, ea] at z; cases z), upd_ne (Nat.ne_of_lt (Heap.lt_size e))]; exact z
  · by_cases y : b = a
    · subst y; exact ⟨_, k2⟩
    · exact ⟨o, k3 b o y e⟩
  · rw [upd_ne (fun y => by rw [y, ea] at e; cases e), upd_ne (fun y => by rw [y, hd] at e; cases e)]; exact e
  · rw [upd_ne (fun y => by rw [y, ea] at e; cases e), upd_ne (fun y => by rw [y, hd] at e; cases e)]; exact e
  · rw [upd_ne (fun y => by rw [y, ea] at e; cases e), upd_ne (fun y => by rw [y, hd] at e; cases e), e]; simp
  · by_cases y : b = a
    · subst y
      rw [upd_same] at e
      cases e
      exact ⟨k2, ⟨_, k2⟩, fun h1 h2 p k => k _ p⟩
    · rw [upd_ne y] at e
      by_cases y2 : b = s2.heap.objs.size
      · subst y2
        rw [upd_same] at e
        cases e
        refine ⟨_, k1, fun g => ?_⟩
        show RelO (([(f, yv)] : List (Str × V)).lookup g) (if g = f then some u else none)
        by_cases z : g = f
        · subst z; rw [if_pos rfl]; simp [List.lookup]; exact ry
        · rw [if_neg z]
          have : (g == f) = false := beq_eq_false_iff_ne.mpr z
          simp [List.lookup, this, RelO]
      · rw [upd_ne y2] at e
        refine (I2.hok b o e).stay (fun c v hc q => k3 c v ?_ q) (fun c q => ?_) fun c xs q => ?_
        · rcases hc with rfl | hc
          · exact y
          · intro z; rw [z, ea] at hc; cases hc
        · rw [upd_ne (fun y => by rw [y, ea] at q; cases q), upd_ne (fun y => by rw [y, hd] at q; cases q)]; exact q
        · rw [upd_ne (fun y => by rw [y, ea] at q; cases q), upd_ne (fun y => by rw [y, hd] at q; cases q)]; exact q
end
noncomputable def sp_xinit (C : Addr) (nm : Str) : Sp := fun vs H Q _ => ∃ p i ws, vs = [.ref p, .int i] ∧ H p = some (XN C p ws) ∧ ∀ dx, H dx = none → Q .non (upd (upd H dx (.xd [(nm, .int i)])) p (XD C p dx ws))

section
variable {X : Cx} {C f : Addr} {fd : FuncData} {nm : Str} {k : Nat} {ps : List Str}
theorem mk_x {pins : List (Addr × Obj)} {σ : St} {H : Hp} {s : Shared} {us : List Value} {i : Int} {Q : Value → Shared → Prop} (x : XCls X.K C f) (F : FnOk X.prog X.w X.K X.mg X.base CX0 k f fd ps (sp_xinit C nm)) (hr : Room (k + 1) X.A) (hb : Binds X.K fd ps [])
    (I : Inv X pins σ H s) (r : Vals [.int i] us)
    (h : ∀ ex dx s', H dx = none → Inv X pins σ (upd H dx (.xd [(nm, .int i)])) s' → FlyN s.heap s'.heap (upd H dx (.xd [(nm, .int i)])) ex C dx → Q (.ref ex) s') : wpAny (model X.prog X.w) X.A (call (.ref C) us) Q X.xe s := by
  obtain ⟨nm', q, N, bs, sn, sub, ab, col, dd, k0, k1, k2, k3, k5, oN, lC, lN, sN, iN⟩ := x.obj
  have hk := I.kIn
  have hus : us.length = 1 := r.length.symm
  obtain ⟨oF, hoF, hcF⟩ : ∃ oF, X.K.lookup f = some oF ∧ oF.cls = .type "function" := by
    have e := beq_iff_eq.mp x.fn
    exact Option.map_eq_some_iff.mp e
  obtain ⟨hh, g, d, t, os⟩ := s
  refine wpAny_call_exc_init PySem.F.excBase_ValueError (hk _ _ lC) (ns_in hk lN sN) (nsMap_in hk iN) (hk _ _ hoF) hcF (fun h' e hm => ?_) (by rw [hus]; decide)
  obtain ⟨tt, he, htn, ht⟩ := hm.there
  have He : H e = none := I.hok.none_of hm.new
  have ke : ∀ b o, hh.get? b = some o → b ≠ e := fun b o q z => by rw [z] at q; rw [hm.new] at q; cases q
  have kt : ∀ b o, H b = some o → b ≠ e := fun b o q z => by rw [z, He] at q; cases q
  have I1 : Inv X pins σ (upd H e (XN C e #[.ref tt, .none, .none, .none, .bool false, .none])) ⟨h', g, d, t, os⟩ := by
    refine I.un (s := ⟨hh, g, d, t, os⟩) (t' := t) ⟨fun b o q _ _ _ => hm.keeps b o q, fun b o q _ _ _ => ⟨o.slots, hm.keeps b o q⟩, fun b o q z _ => by rw [upd_ne (ke b o q)]; exact z, fun b o q _ => ⟨o, hm.keeps b o q⟩,
      fun b xs q => by rw [upd_ne (kt b _ q)]; exact q, fun b o xs q => by rw [upd_ne (kt b _ q)]; exact q, fun b ps q => ⟨#[], by rw [upd_ne (kt b _ q), q]; simp⟩⟩ fun b o q => ?_
    by_cases z : b = e
    · subst z
      rw [upd_same] at q
      cases q
      exact ⟨he, ⟨_, he⟩, fun h1 h2 p k => k _ p⟩
    · rw [upd_ne z] at q
      exact (I.hok b o q).stay (fun c v _ q => hm.keeps c v q) (fun c q => by rw [upd_ne (kt c _ q)]; exact q) fun c xs q => by rw [upd_ne (kt c _ q)]; exact q
  have r2 : Vals (V.ref e :: [V.int i]) (Value.ref e :: us) := .cons rfl r
  have hsp : sp_xinit C nm [V.ref e, V.int i] (upd H e (XN C e #[.ref tt, .none, .none, .none, .bool false, .none])) (fun v H2 => v = .non ∧ ∃ dx, upd H e (XN C e #[.ref tt, .none, .none, .none, .bool false, .none]) dx = none ∧
      H2 = upd (upd (upd H e (XN C e #[.ref tt, .none, .none, .none, .bool false, .none])) dx (.xd [(nm, .int i)])) e (XD C e dx #[.ref tt, .none, .none, .none, .bool false, .none])) E0 := ⟨e, i, _, rfl, upd_same, fun dx hd => ⟨rfl, dx, hd, rfl⟩⟩
  have hl : (Value.ref e :: us ++ []).length = ps.length := by
    rw [← F.len _ _ _ _ hsp, List.append_nil]
    exact r2.length.symm
  have hbb := hb ⟨h', g, d, t, os⟩ (Value.ref e :: us) I1.kIn hl
  rw [List.append_nil] at hbb
  refine wpAny_call (codeAny_mono (F.run _ X.stack _ _ ⟨Value.ref e :: us, []⟩ (Value.ref e :: us) _ _ E0 (hr.make C us []) (I1.env0.make C us []) hbb r2 hsp) fun r s' hq' => ?_)
  cases r with
  | error e => exact False.elim hq'
  | ok fl =>
    cases fl with
    | ret u =>
      obtain ⟨v, H2, I2, rv, ev, dx, hdx, e2⟩ := I1.after hq'
      subst ev
      refine ⟨rv, ?_⟩
      have nde : dx ≠ e := fun z => by rw [z, upd_same] at hdx; cases hdx
      rw [upd_ne nde] at hdx
      have hne : ∀ b o, upd H dx (.xd [(nm, .int i)]) b = some o → b ≠ e := fun b o q z => by
        rw [z, upd_ne (Ne.symm nde), He] at q; cases q
      have same : ∀ b, b ≠ e → H2 b = upd H dx (.xd [(nm, .int i)]) b := fun b z => by
        rw [e2, upd_ne z]
        by_cases y : b = dx
        · subst y; rw [upd_same, upd_same]
        · rw [upd_ne y, upd_ne y, upd_ne z]
      have h2e : H2 e = some (XD C e dx #[.ref tt, .none, .none, .none, .bool false, .none]) := by rw [e2, upd_same]
      obtain ⟨oe, _, _⟩ := (show ObjOk X.prog X.w H2 s'.heap e (XD C e dx _) from I2.hok e _ h2e)
      have nee : ∀ b o, H2 b = some o → (∀ φ, o ≠ .ext φ) → b ≠ e := fun b o q n z => by
        rw [z, h2e] at q
        exact n _ (Option.some.inj q).symm
      refine h e dx s' hdx ?_ ⟨by rw [upd_ne (Ne.symm nde)]; exact He, hm.new, _, _, oe, rfl, rfl, rfl, rfl⟩
      refine I2.un (h' := s'.heap) (t' := s'.toks) ⟨fun b o q _ _ _ => q, fun b o q _ _ _ => ⟨o.slots, q⟩, fun b o q z _ => ?_, fun b o q _ => ⟨o, q⟩, fun b xs q => ?_, fun b o xs q => ?_, fun b ps q => ⟨#[], ?_⟩⟩ fun b o q => ?_
      · have y : b ≠ e := fun y => by rw [y, h2e] at z; cases z
        rw [← same b y]; exact z
      · rw [← same b (nee b _ q fun φ z => nomatch z)]; exact q
      · rw [← same b (nee b _ q fun φ z => nomatch z)]; exact q
      · rw [← same b (nee b _ q fun φ z => nomatch z), q]; simp
      · have y := hne b o q
        rw [← same b y] at q
        exact (I2.hok b o q).stay (fun c v _ q => q) (fun c q => by rw [← same c (nee c _ q fun φ z => nomatch z)]; exact q) fun c xs q => by rw [← same c (nee c _ q fun φ z => nomatch z)]; exact q
    | next => exact False.elim hq'
    | brk => exact False.elim hq'
    | cont => exact False.elim hq'

noncomputable def tRaise (E : XK) (nm : Str) (te : TE) : TS := fun D σ H => te σ H fun v H1 => ∃ i, v = .int i ∧ ∀ dx, H1 dx = none → E (.int i 0) none (upd H1 dx (.xd [(nm, .int i)]))
theorem ps_raise {x : Str} {E : XK} {e : Expr} {te : TE} {np cpos pos : Pos} (l : Lets X C nm E) (hxx : X.ex = []) (c : XCls X.K C f) (F : FnOk X.prog X.w X.K X.mg X.base CX0 k f fd ps (sp_xinit C nm)) (hr : Room (k + 1) X.A) (hb : Binds X.K fd ps []) (hcm : X.calm = true)
    (hg : Gl X x) (hm : X.mg x = some (.ref C)) (ha : PE X e te) (hdb : (x == ("__debug__" : Str)) = false := by decide) (hst : starEach [e] X.env = (false, eval e X.env) :: starEach [] X.env := by rfl) :
    PS X (.Raise (some (.Call (.Name x np) [e] [] cpos)) none pos) (tRaise E nm te) := by
  intro pins s σ H D I h
  rw [arm_exec_Raise]
  have ev : wpAny (model X.prog X.w) X.A (eval (.Call (.Name x np) [e] [] cpos) X.env) (fun v s' => ∃ ex dx i H1, v = .ref ex ∧ Inv X pins σ H1 s' ∧ FlyN X.s_0.heap s'.heap H1 ex C dx ∧ H1 dx = some (.xd [(nm, .int i)]) ∧ E (.int i 0) none H1) X.xe s := by
    refine wpAny_Call_Name_kw (ld_glob I hg hm ?_ hdb)
    refine PySem.W.callWith_K (h₀ := X.base) I.ok.mod.kin c.kp (thn (pa_cons ha pa_nil hst cpos pins s σ H (fun vs H1 => match vs with | [v] => ∃ i, v = .int i ∧ ∀ dx, H1 dx = none → E (.int i 0) none (upd H1 dx (.xd [(nm, .int i)])) | _ => False) I h) fun us s1 ⟨vs, H1, I1, r, q⟩ => ⟨I1.kIn, ?_⟩) hst rfl
    match vs, q with
    | [v], ⟨i, ev, q⟩ =>
      subst ev
      refine mk_x c F hr hb I1 r fun ex dx s' hd I2 fl => ⟨ex, dx, i, _, rfl, I2, ?_, upd_same, q dx hd⟩
      obtain ⟨a, b, rest⟩ := fl
      refine ⟨a, ?_, rest⟩
      have u := I1.base
      rw [hxx] at u
      exact u.gone _ b
  obtain ⟨nm', q', N, bs, sn, sub, ab, col, dd, k0, k1, k2, k3, k5, oN, lC, _⟩ := c.obj
  have hcB : (Value.ref C :: bmV).contains (.type "BaseException") = true := by rw [List.contains_cons, bm_base, Bool.or_true]
  refine wpAny_bind (wpAny_standAt ?_)
  show wpAny _ _ (raiseStmt X.env (some (eval (.Call (.Name x np) [e] [] cpos) X.env >>= fun v => standAt pos >>= fun _ => pure v)) none) _ _ s
  unfold raiseStmt
  refine wpAny_bind (wpAny_bind (thn ev fun v s1 ⟨ex, dx, i, H1, ev, I1, fl, hd, he⟩ => wpAny_bind (wpAny_standAt (wpAny_pure ?_))))
  subst ev
  have hC := I1.kIn _ _ lC
  obtain ⟨hx, hy, oe, vs, c1, c2, c3, c4, c5⟩ := id fl
  have fin : X.xe (.ref ex) s1 := l pins σ H1 s1 ex dx i I1 (.inr fl) hd he
  have hh := I.ok.hd hcm
  obtain ⟨hp, g, d, tk, os⟩ := s1
  repeat (first | (with_reducible refine wpAny_loadPart_at c1 ?_; rw [c2]) | with_reducible refine wpAny_loadPart_at hC ?_ | (with_reducible refine wpAny_isSubtype_exc hC ?_; rw [hcB]) | wp_step)
  rw [c4]
  refine wpAny_pure ?_
  rw [c5]
  refine wpAny_pure ?_
  rw [if_neg (by decide)]
  exact wpAny_pure (wpAny_raiseNew_none hh fin)
end
end L2
namespace L2
open PySem PySem.Spec PyProof.Rows
noncomputable abbrev XE (C p dx : Addr) : HO := .ext fun h => ∃ oe vs, h.get? p = some oe ∧ oe.cls = .ref C ∧ oe.dict = some dx ∧ oe.data = .fields vs
noncomputable abbrev Cx.pinned (X : Cx) (pp : List (Addr × Obj)) (E : Value → Shared → Prop) : Cx := { X with pn := pp, xe := E }
noncomputable abbrev Cx.marked (X : Cx) (ex : Addr) : Cx := { X with A := X.A.mark (some (.ref ex)), calm := false, xe := fun _ _ => False }
theorem Inv.pn_in {X : Cx} {pins : List (Addr × Obj)} {σ : St} {H : Hp} {s : Shared} (I : Inv X pins σ H s) (E : Value → Shared → Prop) : Inv (X.pinned (X.pn ++ pins) E) [] σ H s :=
  ⟨⟨I.ok.mod, I.ok.kind, I.ok.glob, I.ok.blt, I.ok.above, I.ok.inj, I.ok.has, I.ok.cab, I.ok.hd, I.ok.frames, I.ok.stk, I.ok.exf, I.ok.bs, I.ok.bsz, I.ok.noex, I.ok.exfs, I.ok.funs, I.ok.frf⟩, I.os, I.bare, I.base, I.loc, I.cell, I.free, I.freeC,
    fun p hp => I.pin p ((List.mem_append.mp hp).elim (fun z => z) fun z => absurd z (by simp)), I.hok, I.len⟩
theorem Inv.pn_out {X : Cx} {pins pins' : List (Addr × Obj)} {σ : St} {H : Hp} {s : Shared} {E : Value → Shared → Prop} (I : Inv (X.pinned (X.pn ++ pins) E) pins' σ H s) : Inv X pins σ H s :=
  ⟨⟨I.ok.mod, I.ok.kind, I.ok.glob, I.ok.blt, I.ok.above, I.ok.inj, I.ok.has, I.ok.cab, I.ok.hd, I.ok.frames, I.ok.stk, I.ok.exf, I.ok.bs, I.ok.bsz, I.ok.noex, I.ok.exfs, I.ok.funs, I.ok.frf⟩, I.os, I.bare, I.base, I.loc, I.cell, I.free, I.freeC,
    fun p hp => I.pin p (List.mem_append_left _ hp), I.hok, I.len⟩
theorem SP.pn_out {X : Cx} {pins pins' : List (Addr × Obj)} {D : Ends} {f : Flow} {s' : Shared} {E : Value → Shared → Prop} (h : SP (X.pinned (X.pn ++ pins) E) pins' D f s') : SP X pins D f s' := by
  cases f with
  | next => obtain ⟨σ', H', I, q⟩ := h; exact ⟨σ', H', I.pn_out, q⟩
  | brk => obtain ⟨σ', H', I, q⟩ := h; exact ⟨σ', H', I.pn_out, q⟩
  | cont => obtain ⟨σ', H', I, q⟩ := h; exact ⟨σ', H', I.pn_out, q⟩
  | ret u => obtain ⟨v, σ', H', I, r, q⟩ := h; exact ⟨v, σ', H', I.pn_out, r, q⟩
theorem Inv.mark_in {X : Cx} {pins : List (Addr × Obj)} {σ : St} {H : Hp} {s : Shared} (I : Inv X pins σ H s) (ex : Addr) : Inv (X.marked ex) pins σ H s :=
  ⟨⟨I.ok.mod, I.ok.kind, I.ok.glob, I.ok.blt, I.ok.above, I.ok.inj, I.ok.has, I.ok.cab, (fun z => nomatch z), I.ok.frames, I.ok.stk, I.ok.exf, I.ok.bs, I.ok.bsz, I.ok.noex, I.ok.exfs, I.ok.funs, I.ok.frf⟩, I.os, I.bare, I.base, I.loc, I.cell, I.free, I.freeC,
    I.pin, I.hok, I.len⟩
theorem Inv.forget {X : Cx} {pins : List (Addr × Obj)} {σ : St} {H : Hp} {s : Shared} {ex : Addr} {h' : Heap} {m : Str → Option Value} {t' : Nat} (I : Inv (X.marked ex) pins σ H s) (hh : X.calm = true → X.A.handled = none) (hn : h'.Ns X.env.locals m) (sb : Heap.SameBut X.env.locals s.heap h') :
    Inv X pins (List.replicate X.N.length none) H { s with heap := h', toks := t' } := by
  have hx : ∀ b o, X.s_0.heap.get? b = some o → b ≠ X.env.locals := fun b o e => Nat.ne_of_lt (Nat.lt_of_lt_of_le (Heap.lt_size e) I.ok.above)
  refine ⟨⟨I.ok.mod, I.ok.kind, I.ok.glob, I.ok.blt, I.ok.above, I.ok.inj, I.ok.has, I.ok.cab, hh, I.ok.frames, I.ok.stk, I.ok.exf, I.ok.bs, I.ok.bsz, I.ok.noex, I.ok.exfs, I.ok.funs, I.ok.frf⟩, I.os, I.bare, ⟨fun b o e n hb hx' => ?_, fun b o e n hb hx' => ?_, I.base.free, fun b o e hx' => ?_, I.base.tups, I.base.frzs, I.base.tbls⟩,
    ⟨m, hn, fun i x v _ e _ => ?_⟩, fun y c e => ?_, I.free, I.freeC, fun p hp => ?_, fun b o e => ?_, by simp⟩
  · exact (sb.2 b (hx b o e)).trans (I.base.keep b o e n hb hx')
  · obtain ⟨sl, e1⟩ := I.base.slot b o e n hb hx'
    exact ⟨sl, (sb.2 b (hx b o e)).trans e1⟩
  · obtain ⟨o', e1⟩ := I.base.there b o e hx'
    exact ⟨o', (sb.2 b (hx b o e)).trans e1⟩
  · rw [List.getElem?_replicate] at e
    split at e <;> cases e
  · obtain ⟨w', z⟩ := I.cell y c e
    exact ⟨w', z.sameBut sb (I.cne y c e)⟩
  · obtain ⟨e, n, ne, nf, d⟩ := I.pin p hp
    exact ⟨(sb.2 p.1 ne).trans e, n, ne, nf, d⟩
  · refine (I.hok b o e).stay (fun c w' hc q => (sb.2 c ?_).trans q) (fun _ q => q) fun _ _ q => q
    rintro rfl
    have fr : H X.env.locals = none := I.free
    rcases hc with hc | hc
    · rw [← hc, fr] at e; cases e
    · rw [fr] at hc; cases hc

noncomputable def tTry (E : XK) (C : Addr) (nm : Str) (fi : Nat) (tb ts : TS) : TS := fun D σ H => tb D σ H ∧ ∀ i H1, E (.int i 0) none H1 → ∀ (σ1 : St) (ex dx : Addr), H1 ex = none → H1 dx = some (.xd [(nm, .int i)]) →
  σ1.length = σ.length → ts { nx := fun _ _ => False, rt := D.rt } (σ1.set fi (some (.ref ex))) (upd H1 ex (XE C ex dx))
theorem ps_try {X : Cx} {E : XK} {C f : Addr} {nm x n : Str} {fi : Nat} {body suite : List Stmt} {b0 : Stmt} {tb ts : TS} {np hpos pos : Pos} {L : Addr} (hN : X.N.Nodup) (hi : X.N[fi]? = some n) (hl : X.env.scope.names.lookup n = some .local) (hxx : X.ex = []) (hst : X.stack = X.env :: X.outer) (hf : X.env.frame = some L)
    (c : XCls X.K C f) (hg : Gl X x) (hm : X.mg x = some (.ref C)) (hcm : X.calm = true)
    (hb : ∀ pp xe', Passes (CXE X.prog X.w C nm) (X.pinned pp xe') E → PSs (X.pinned pp xe') body tb) (hs : ∀ ex, PSs (X.marked ex) (b0 :: suite) ts) (hdb : (x == ("__debug__" : Str)) = false := by decide) :
    PS X (.Try body [.ExceptHandler (some (.Name x np)) (some n) (b0 :: suite) hpos] [] [] pos) (tTry E C nm fi tb ts) := by
  intro pins s σ H D I h
  obtain ⟨hq, hh⟩ := h
  let E' : Value → Shared → Prop := fun e s1 => ∃ σ0 H0 s0, Inv X pins σ0 H0 s0 ∧ CXE X.prog X.w C nm X.stack H0 s0 E e s1
  have hp : Passes (CXE X.prog X.w C nm) (X.pinned (X.pn ++ pins) E') E := fun pins' σ0 H0 s0 e s1 I0 cx => ⟨σ0, H0, s0, I0.pn_out, cx⟩
  have run := hb (X.pn ++ pins) E' hp [] s σ H D (I.pn_in E') hq
  refine wpAny_Try_except (wpAny_mono run (fun fl s1 q => ?_) fun e s1 q => ?_)
  · have q := SP.pn_out (pins := pins) q
    cases fl with
    | next => exact wpAny_execs_nil q
    | brk => exact q
    | cont => exact q
    | ret u => exact q
  · obtain ⟨σ0, H0, s0, I0, ex, dx, i, H1, rfl, os, bare, un, hok, fly, hdx, he⟩ := q
    have I1 : Inv X pins σ0 H1 s1 := I0.call' (ch := []) os un hok bare (fun b z => absurd z (by simp))
    have th : ∀ {h : Heap}, Un (frs X.stack) [] H0 H1 s0.heap h → ∀ b, s0.heap.get? b ≠ none → b < h.objs.size := fun {h} u b hb => by
      cases q : s0.heap.get? b with
      | none => exact absurd q hb
      | some o =>
        obtain ⟨o', e'⟩ := u.there b o q (by simp)
        exact Heap.lt_size e'
    have hfs : ∀ b ∈ frs X.stack, H1 b = none := I1.stkFree
    have fun1 := I1.stack
    have hfr := I.ok.frames
    have rec1 : ∀ b ∈ frs X.stack, ∃ o, s1.heap.get? b = some o ∧ ∀ vs, o.data ≠ .fields vs := fun b hb => (fun1.mem hb).2
    rw [hst] at fun1 hfr
    refine note_x (base := X.base) (h0 := s0.heap) (H := H1) hfr fun1 hf (.inl fly) (fun a => hok.fresh) (th un) fun h2 kp2 f2 => ?_
    rw [← hst] at kp2
    have rec2 : ∀ b ∈ frs X.stack, ∃ o, h2.get? b = some o ∧ ∀ vs, o.data ≠ .fields vs := fun b hb => by
      obtain ⟨o, e, n⟩ := rec1 b hb
      obtain ⟨sl, e'⟩ := kp2.slot b o e hb
      exact ⟨_, e', n⟩
    refine flight_x (s := { s1 with heap := h2 }) (h0 := s0.heap) (H := H1) (fs := frs X.stack) f2 rec2 fun h3 kp3 f3 => ?_
    have rec3 : ∀ b ∈ frs X.stack, ∃ o, h3.get? b = some o ∧ ∀ vs, o.data ≠ .fields vs := fun b hb => by
      obtain ⟨o, e, n⟩ := rec2 b hb
      obtain ⟨sl, e'⟩ := kp3.slot b o e hb
      exact ⟨_, e', n⟩
    have kp13 := kp2.trans kp3
    have un3 := Kp.un un kp13 (fun b o e z => z) hfs
    have hok3 := kp13.hok hok hfs
    have I3 : Inv X pins σ0 H1 { s1 with heap := h3 } := I0.call' (s' := { s1 with heap := h3 }) (ch := []) os un3 hok3 bare (fun b z => absurd z (by simp))
    obtain ⟨nm', q', N, bs, sn, sub, ab, col, dd, k0, k1, k2, k3, k5, oN, lC, _⟩ := c.obj
    have hC := I3.kIn _ _ lC
    obtain ⟨_, _, oe, vs, c1, c2, c3, c4, _⟩ := id f3
    refine wpAny_handleBy_cons (codeAny_handlers_test (ld_glob (I3.mark_in ex) hg hm (wpAny_excMatches_sub_self hC c1 c2 bm_base (codeAny_handlers_suite_as ?_)) hdb)) (by intro q; cases q)
    refine flight_x (s := { s1 with heap := h3 }) (h0 := s0.heap) (H := H1) (fs := frs X.stack) f3 rec3 fun h4 kp4 f4 => ?_
    have kp14 := kp13.trans kp4
    have un4 := Kp.un un kp14 (fun b o e z => z) hfs
    have hok4 := kp14.hok hok hfs
    obtain ⟨hx, hy, oe4, vs4, d1, d2, d3, d4, _⟩ := id f4
    have kx : ∀ b o, H1 b = some o → b ≠ ex := fun b o q z => by rw [z, hx] at q; cases q
    have un5 : Un (frs X.stack) [] H0 (upd H1 ex (XE C ex dx)) s0.heap h4 := ⟨un4.keep, un4.slot, fun b o q n z => by rw [upd_ne (fun y => by rw [y, hy] at q; cases q)]; exact un4.free b o q n z, un4.there,
      fun b xs q => by rw [upd_ne (kx b _ (un4.tups b xs q))]; exact un4.tups b xs q, fun b o xs q => by rw [upd_ne (kx b _ (un4.frzs b o xs q))]; exact un4.frzs b o xs q, fun b ps q => by
        obtain ⟨more, e⟩ := un4.tbls b ps q
        exact ⟨more, by rw [upd_ne (kx b _ e)]; exact e⟩⟩
    have hok5 : HOk X.prog X.w (upd H1 ex (XE C ex dx)) h4 := fun b o q => by
      by_cases z : b = ex
      · subst z
        rw [upd_same] at q
        cases q
        exact ⟨⟨oe4, vs4, d1, d2, d3, d4⟩, ⟨_, d1⟩, fun h1 h2 ⟨a1, a2, a3, a4⟩ k => ⟨a1, a2, k _ a3, a4⟩⟩
      · rw [upd_ne z] at q
        exact (hok4 b o q).stay (fun c v _ q => q) (fun c q => by rw [upd_ne (kx c _ q)]; exact q) fun c xs q => by rw [upd_ne (kx c _ q)]; exact q
    have I5 : Inv X pins σ0 (upd H1 ex (XE C ex dx)) { s1 with heap := h4 } := I0.call' (s' := { s1 with heap := h4 }) (ch := []) os un5 hok5 bare (fun b z => absurd z (by simp))
    refine store_ok (X := X.marked ex) (i := fi) (v := .ref ex) (I5.mark_in ex) hN hi (.inl hl) rfl (fun s6 I6 => ?_) (.inr hl)
    have run2 := hs ex pins s6 _ _ { nx := fun _ _ => False, rt := D.rt } I6 (hh i H1 he σ0 ex dx hx hdx (by rw [I0.len, I.len]))
    refine wpAny_mono run2 (fun fl s7 q => ?_) fun e s7 q => q.elim
    cases fl with
    | next => obtain ⟨_, _, _, q⟩ := q; exact q.elim
    | brk => obtain ⟨_, _, _, q⟩ := q; exact q.elim
    | cont => obtain ⟨_, _, _, q⟩ := q; exact q.elim
    | ret u =>
      obtain ⟨v, σ7, H7, I7, rv, q7⟩ := q
      obtain ⟨m, hn, _⟩ := id I7.loc
      refine wpAny_nameGoes hl hn (by rw [I.ok.kind]; rfl) fun h8 m8 hn8 sb8 => ?_
      exact ⟨v, _, H7, I7.forget I.ok.hd hn8 sb8, rv, q7⟩

noncomputable def tFldX (K : PySem.W.Frag) (ta : TE) (f : Str) : TE := fun σ H Q => ta σ H fun x H1 => ∃ a C g dx i, x = .ref a ∧ H1 a = some (XE C a dx) ∧ H1 dx = some (.xd [(f, .int i)]) ∧ XCls K C g ∧ NoAttr K C f ∧ Q (.int i) H1
theorem pe_fldX {X : Cx} {e : Expr} {f : Str} {pos : Pos} {ta : TE} (he : PE X e ta) (hb : attributeBase e f X.env (eval e X.env) = eval e X.env) : PE X (.Attribute e f pos) (tFldX X.K ta f) := by
  intro pins s σ H Q I h
  refine attr_of hb (thn (he pins s σ H _ I h) fun u s1 ⟨x, H1, I1, rx, a, C, g, dx, i, ex, ea, ed, c, n, q⟩ => ?_)
  subst ex
  obtain rfl : u = Value.ref a := rx
  obtain ⟨⟨oe, vs, a1, a2, a3, a4⟩, _, _⟩ := (show ObjOk X.prog X.w H1 s1.heap a (XE C a dx) from I1.hok a _ ea)
  obtain ⟨mA, hn, hr⟩ := (show ObjOk X.prog X.w H1 s1.heap dx (.xd [(f, .int i)]) from I1.hok dx _ ed)
  obtain ⟨u, hu, ru⟩ := RelO.some_of (v := V.int i) (o := mA f) (by have := hr f; simpa [List.lookup] using this)
  exact xget I1.kIn c n a1 a2 a3 a4 hn hu (handed_of ru) ⟨.int i, H1, I1.tok _, ru, q⟩
theorem pe_fldXK {X : Cx} {K : PySem.W.Frag} {e : Expr} {f : Str} {pos : Pos} {ta : TE} (hK : X.K = K) (he : PE X e ta) (hb : attributeBase e f X.env (eval e X.env) = eval e X.env) : PE X (.Attribute e f pos) (tFldX K ta f) := by
  subst hK
  exact pe_fldX he hb
end L2
end
section
namespace L2
open PySem PySem.Spec PyProof.Rows
noncomputable def sf (tp : Addr) (p r : Int) : List (Str × V) := [("text", .ref tp), ("place", .int p), ("room", .int r)]
noncomputable def ScanAt (C : Addr) (H : Hp) (a tp : Addr) (p r : Int) : Prop := ∃ dx, H a = some (.ins C dx (sf tp p r))
theorem sf_text (tp : Addr) (p r : Int) : (sf tp p r).lookup ("text" : Str) = some (.ref tp) := by
  unfold sf
  rw [List.lookup_cons, show (("text" : Str) == "text") = true from by decide +kernel]
theorem sf_place (tp : Addr) (p r : Int) : (sf tp p r).lookup ("place" : Str) = some (.int p) := by
  unfold sf
  rw [List.lookup_cons, show (("place" : Str) == "text") = false from by decide +kernel, List.lookup_cons, show (("place" : Str) == "place") = true from by decide +kernel]
theorem sf_room (tp : Addr) (p r : Int) : (sf tp p r).lookup ("room" : Str) = some (.int r) := by
  unfold sf
  rw [List.lookup_cons, show (("room" : Str) == "text") = false from by decide +kernel, List.lookup_cons, show (("room" : Str) == "place") = false from by decide +kernel, List.lookup_cons, show (("room" : Str) == "room") = true from by decide +kernel]
theorem sf_putp (tp : Addr) (p r q : Int) : putF "place" (.int q) (sf tp p r) = sf tp q r := by
  unfold sf
  show (if (("text" : Str) = "place") then _ else _) = _
  rw [if_neg (by decide +kernel)]
  show _ :: (if (("place" : Str) = "place") then _ else _) = _
  rw [if_pos rfl]
theorem sf_putr (tp : Addr) (p r q : Int) : putF "room" (.int q) (sf tp p r) = sf tp p q := by
  unfold sf
  show (if (("text" : Str) = "room") then _ else _) = _
  rw [if_neg (by decide +kernel)]
  show _ :: (if (("place" : Str) = "room") then _ else _) = _
  rw [if_neg (by decide +kernel)]
  show _ :: _ :: (if (("room" : Str) = "room") then _ else _) = _
  rw [if_pos rfl]
theorem sf_made (tp : Addr) (p r : Int) : putF "room" (.int r) (putF "place" (.int p) (putF "text" (.ref tp) [])) = sf tp p r := by
  unfold sf
  show putF "room" _ (if (("text" : Str) = "place") then _ else _) = _
  rw [if_neg (by decide +kernel)]
  show (if (("text" : Str) = "room") then _ else _) = _
  rw [if_neg (by decide +kernel)]
  show _ :: (if (("place" : Str) = "room") then _ else _) = _
  rw [if_neg (by decide +kernel)]
  rfl
theorem sf_len (tp : Addr) (p r : Int) : (sf tp p r).length < 1000 := by show 3 < 1000; decide
section
variable {K : PySem.W.Frag} {C : Addr} {H H' : Hp} {a tp : Addr} {p r : Int} {Q : V → Prop}
theorem sc_text (h : ScanAt C H a tp p r) (c : Cls K C) (n : NoAttr K C "text") (q : Q (.ref tp)) : ∃ (a' : Addr) (C' dx : Addr) (fs : List (Str × V)) (v : V), V.ref a = V.ref a' ∧ H a' = some (.ins C' dx fs) ∧ Cls K C' ∧ NoAttr K C' "text" ∧ fs.lookup ("text" : Str) = some v ∧ Q v := by
  obtain ⟨dx, h⟩ := h
  exact ⟨a, C, dx, _, _, rfl, h, c, n, sf_text _ _ _, q⟩
theorem sc_place (h : ScanAt C H a tp p r) (c : Cls K C) (n : NoAttr K C "place") (q : Q (.int p)) : ∃ (a' : Addr) (C' dx : Addr) (fs : List (Str × V)) (v : V), V.ref a = V.ref a' ∧ H a' = some (.ins C' dx fs) ∧ Cls K C' ∧ NoAttr K C' "place" ∧ fs.lookup ("place" : Str) = some v ∧ Q v := by
  obtain ⟨dx, h⟩ := h
  exact ⟨a, C, dx, _, _, rfl, h, c, n, sf_place _ _ _, q⟩
theorem sc_room (h : ScanAt C H a tp p r) (c : Cls K C) (n : NoAttr K C "room") (q : Q (.int r)) : ∃ (a' : Addr) (C' dx : Addr) (fs : List (Str × V)) (v : V), V.ref a = V.ref a' ∧ H a' = some (.ins C' dx fs) ∧ Cls K C' ∧ NoAttr K C' "room" ∧ fs.lookup ("room" : Str) = some v ∧ Q v := by
  obtain ⟨dx, h⟩ := h
  exact ⟨a, C, dx, _, _, rfl, h, c, n, sf_room _ _ _, q⟩
end
noncomputable def SameX (a : Addr) (H H' : Hp) : Prop := ∀ b o, b ≠ a → H b = some o → H' b = some o
theorem SameX.refl {a : Addr} {H : Hp} : SameX a H H := fun _ _ _ e => e
theorem SameX.trans {a : Addr} {H H1 H2 : Hp} (x : SameX a H H1) (y : SameX a H1 H2) : SameX a H H2 := fun b o n e => y b o n (x b o n e)
theorem SameX.of {a : Addr} {H H1 : Hp} (x : Same H H1) : SameX a H H1 := fun b o _ e => x b o e
theorem SameX.new {a p : Addr} {H : Hp} {o : HO} (hp : H p = none) : SameX a H (upd H p o) := SameX.of (Same.new hp)
theorem ScanAt.keep {C : Addr} {H H' : Hp} {a tp : Addr} {p r : Int} (s : Same H H') (h : ScanAt C H a tp p r) : ScanAt C H' a tp p r := h.imp fun _ e => s _ _ e
theorem SameX.seq {K : PySem.W.Frag} {C : Addr} {H H' : Hp} {a tp b : Addr} {p r : Int} {xs : List V} (s : SameX a H H') (hs : ScanAt C H a tp p r) (h : SqL K H b xs) : SqL K H' b xs := by
  obtain ⟨dx, hs⟩ := hs
  rcases h with (h | ⟨o, h⟩) | h
  · exact .inl (.inl (s _ _ (fun z => by rw [z, hs] at h; cases h) h))
  · exact .inl (.inr ⟨o, s _ _ (fun z => by rw [z, hs] at h; cases h) h⟩)
  · exact .inr h
theorem SameX.lst {C : Addr} {H H' : Hp} {a tp b : Addr} {p r : Int} {xs : List V} (s : SameX a H H') (hs : ScanAt C H a tp p r) (h : H b = some (.lst xs)) : H' b = some (.lst xs) := by
  obtain ⟨dx, hs⟩ := hs
  exact s _ _ (fun z => by rw [z, hs] at h; cases h) h
noncomputable abbrev tI (t : List UInt8) : List Int := t.map fun c => ((c.toNat : Nat) : Int)
theorem tI_at {t : List UInt8} {i : Nat} {c : UInt8} (h : t[i]? = some c) : ((tI t).map V.int)[i]? = some (V.int ((c.toNat : Nat) : Int)) := by
  rw [List.getElem?_map, List.getElem?_map, h]; rfl
theorem tI_len (t : List UInt8) : ((tI t).map V.int).length = t.length := by rw [List.length_map, List.length_map]
theorem cut_mid (xs : List V) (p q : Nat) (h : q ≤ xs.length) (hp : p ≤ q) : cutV xs (some (p : Int)) (some (q : Int)) = (xs.drop p).take (q - p) := by
  unfold cutV
  rw [HT.sIx_nat, HT.sIx_nat, Nat.min_eq_left (show p ≤ xs.length by omega), Nat.min_eq_left h]
theorem cut_to (xs : List V) (q : Nat) : cutV xs none (some (q : Int)) = xs.take q := by
  unfold cutV
  rw [HT.sIx_nat, HT.sIx_none, List.drop_zero, Nat.sub_zero]
  by_cases h : q ≤ xs.length
  · rw [Nat.min_eq_left h]
  · rw [Nat.min_eq_right (by omega), List.take_length, List.take_of_length_le (by omega)]
theorem tI_cut (t : List UInt8) (p q : Nat) : (((tI t).map V.int).drop p).take q = (tI ((t.drop p).take q)).map V.int := by
  rw [← List.map_drop, ← List.map_take, ← List.map_drop, ← List.map_take]
theorem tI_take (t : List UInt8) (q : Nat) : ((tI t).map V.int).take q = (tI (t.take q)).map V.int := by
  rw [← List.map_take, ← List.map_take]
noncomputable def sp_Scan_init (C : Addr) : Sp := fun vs H Q _ => ∃ (p dx tp : Addr), vs = [.ref p, .ref tp] ∧ H p = some (.ins C dx []) ∧ ∀ H' : Hp, ScanAt C H' p tp 0 40 → (∀ a o, H a = some o → a ≠ p → H' a = some o) → Q .non H'
end L2
end

namespace My
theorem ipos {b : Int} (hb : 0 < b) : (0 : Rat) < (b : Rat) := Rat.intCast_pos.mpr hb
theorem ine {b : Int} (hb : 0 < b) : (b : Rat) ≠ 0 := Rat.ne_of_gt (ipos hb)
theorem le_div {a b c : Rat} (hc : 0 < c) : a ≤ b / c ↔ a * c ≤ b := by
  rw [← Rat.not_lt, ← Rat.not_lt, Rat.div_lt_iff hc]
theorem div_le {a b c : Rat} (hc : 0 < c) : b / c ≤ a ↔ b ≤ a * c := by
  rw [← Rat.not_lt, ← Rat.not_lt, Rat.lt_div_iff hc]
theorem eq_div {a b c : Rat} (hc : 0 < c) : a = b / c ↔ a * c = b := by
  constructor
  · intro h; rw [h]; exact Rat.div_mul_cancel (Rat.ne_of_gt hc)
  · intro h; rw [← h]; exact (Rat.mul_div_cancel (Rat.ne_of_gt hc)).symm
theorem div_le_div {a b c d : Rat} (hb : 0 < b) (hd : 0 < d) : a / b ≤ c / d ↔ a * d ≤ c * b := by
  rw [div_le hb]
  have e : c / d * b = c * b / d := by grind
  rw [e, le_div hd]
theorem div_lt_div {a b c d : Rat} (hb : 0 < b) (hd : 0 < d) : a / b < c / d ↔ a * d < c * b := by
  rw [← Rat.not_le, ← Rat.not_le, div_le_div hd hb]
theorem div_eq_div {a b c d : Rat} (hb : 0 < b) (hd : 0 < d) : a / b = c / d ↔ a * d = c * b := by
  rw [eq_div hd]
  have e : a / b * d = a * d / b := by grind
  rw [e]
  constructor
  · intro h; exact (eq_div hb).mp h.symm |>.symm
  · intro h; exact ((eq_div hb).mpr h.symm).symm
theorem qle {a b c d : Int} (hb : 0 < b) (hd : 0 < d) : (a : Rat) / b ≤ (c : Rat) / d ↔ a * d ≤ c * b := by
  rw [div_le_div (ipos hb) (ipos hd), ← Rat.intCast_mul, ← Rat.intCast_mul, Rat.intCast_le_intCast]
theorem qlt {a b c d : Int} (hb : 0 < b) (hd : 0 < d) : (a : Rat) / b < (c : Rat) / d ↔ a * d < c * b := by
  rw [div_lt_div (ipos hb) (ipos hd), ← Rat.intCast_mul, ← Rat.intCast_mul, Rat.intCast_lt_intCast]
theorem qeq {a b c d : Int} (hb : 0 < b) (hd : 0 < d) : (a : Rat) / b = (c : Rat) / d ↔ a * d = c * b := by
  rw [div_eq_div (ipos hb) (ipos hd), ← Rat.intCast_mul, ← Rat.intCast_mul, Rat.intCast_inj]
theorem q0le {a b : Int} (hb : 0 < b) : (0 : Rat) ≤ (a : Rat) / b ↔ 0 ≤ a := by
  rw [le_div (ipos hb), Rat.zero_mul, Rat.intCast_nonneg]
theorem qlt0 {a b : Int} (hb : 0 < b) : (a : Rat) / b < 0 ↔ a < 0 := by
  rw [← Rat.not_le, q0le hb, Int.not_le]
theorem q0lt {a b : Int} (hb : 0 < b) : 0 < (a : Rat) / b ↔ 0 < a := by
  rw [Rat.lt_div_iff (ipos hb), Rat.zero_mul, Rat.intCast_pos]
theorem qeq0 {a b : Int} (hb : 0 < b) : (a : Rat) / b = 0 ↔ a = 0 := by
  constructor
  · intro h
    have := (eq_div (ipos hb)).mp h.symm
    rw [Rat.zero_mul] at this
    exact (Rat.intCast_inj.mp (this.symm.trans Rat.intCast_zero.symm))
  · intro h; rw [h, Rat.intCast_zero]; grind
theorem qdiv {a b c d : Int} (hb : 0 < b) (hd : 0 < d) (hc : c ≠ 0) : (a : Rat) / b / ((c : Rat) / d) = ((a * d : Int) : Rat) / ((b * c : Int) : Rat) := by
  have h1 := ine hb
  have h2 := ine hd
  have h3 : (c : Rat) ≠ 0 := fun h => hc (Rat.intCast_inj.mp (h.trans Rat.intCast_zero.symm))
  rw [Rat.intCast_mul, Rat.intCast_mul]
  grind
theorem qneg {a b : Int} : -((a : Rat) / b) = ((-a : Int) : Rat) / b := by
  rw [Rat.intCast_neg]; grind
theorem qone (a : Int) : (a : Rat) = (a : Rat) / ((1 : Int) : Rat) := by
  rw [Rat.intCast_one]; grind
theorem floor_div {a b : Int} (hb : 0 < b) : ((a : Rat) / (b : Rat)).floor = a / b := by
  have key : ∀ x : Int, x ≤ ((a : Rat) / (b : Rat)).floor ↔ x ≤ a / b := by
    intro x
    rw [Rat.le_floor_iff, le_div (ipos hb), ← Rat.intCast_mul, Rat.intCast_le_intCast, Int.le_ediv_iff_mul_le hb]
  apply Int.le_antisymm
  · exact (key _).mp (Int.le_refl _)
  · exact (key _).mpr (Int.le_refl _)
theorem num_den (q : Rat) : q = (q.num : Rat) / ((q.den : Int) : Rat) := by
  have h := Rat.num_divInt_den q
  rw [Rat.divInt_eq_div] at h
  exact h.symm
noncomputable def wholeI (mode : Nat) (a b : Int) : Int :=
  if a % b = 0 then a / b
  else if mode = 1 then (if 0 ≤ a then a / b else a / b + 1)
  else if mode = 2 then a / b + 1
  else if mode = 3 then a / b
  else if 2 * (a % b) < b then a / b
  else if b < 2 * (a % b) then a / b + 1
  else if mode = 4 then (if 0 ≤ a then a / b + 1 else a / b)
  else if (a / b) % 2 = 0 then a / b else a / b + 1
theorem frac_div {a b : Int} (hb : 0 < b) : (a : Rat) / b - ((a / b : Int) : Rat) = ((a % b : Int) : Rat) / b := by
  have h1 := ine hb
  have e : (a : Rat) = ((b * (a / b) + a % b : Int) : Rat) := by rw [Int.mul_ediv_add_emod]
  rw [Rat.intCast_add, Rat.intCast_mul] at e
  have e2 : (a : Rat) / b = ((b : Rat) * ((a / b : Int) : Rat) + ((a % b : Int) : Rat)) / b := by rw [← e]
  rw [e2]
  grind
theorem half_lt {a b : Int} (hb : 0 < b) : (a : Rat) / b < 1 / 2 ↔ 2 * a < b := by
  have := @qlt a b 1 2 hb (by decide)
  rw [Rat.intCast_one] at this
  have e : ((2 : Int) : Rat) = 2 := rfl
  rw [e] at this
  rw [this]; omega
theorem lt_half {a b : Int} (hb : 0 < b) : 1 / 2 < (a : Rat) / b ↔ b < 2 * a := by
  have := @qlt 1 2 a b (by decide) hb
  rw [Rat.intCast_one] at this
  have e : ((2 : Int) : Rat) = 2 := rfl
  rw [e] at this
  rw [this]; omega
theorem whole_div (mode : Nat) {a b : Int} (hb : 0 < b) : Sh.whole mode ((a : Rat) / b) = wholeI mode a b := by
  unfold Sh.whole wholeI
  dsimp only
  rw [floor_div hb, frac_div hb]
  simp only [qeq0 hb, q0le hb, half_lt hb, lt_half hb]
end My
namespace My
theorem two_eq (k : Int) : Sh.two k = (2 : Rat) ^ k := by
  unfold Sh.two
  split
  · rename_i h
    obtain ⟨n, rfl⟩ := Int.eq_ofNat_of_zero_le h
    rw [Rat.zpow_natCast, Rat.natCast_pow]
    rfl
  · rename_i h
    obtain ⟨n, hn⟩ := Int.eq_ofNat_of_zero_le (show 0 ≤ -k by omega)
    have e : k = -(n : Int) := by omega
    rw [e, Rat.zpow_neg, Rat.zpow_natCast, Int.neg_neg, Int.toNat_natCast, Rat.natCast_pow]
    have : ((2 : Nat) : Rat) = 2 := rfl
    rw [this]
    grind
theorem two_ne : (2 : Rat) ≠ 0 := by decide
theorem two_pos (k : Int) : 0 < Sh.two k := by
  rw [two_eq]; exact Rat.zpow_pos (by decide)
theorem two_add (j k : Int) : Sh.two (j + k) = Sh.two j * Sh.two k := by
  rw [two_eq, two_eq, two_eq, Rat.zpow_add two_ne]
theorem two_one : Sh.two 1 = 2 := by rw [two_eq, Rat.zpow_one]
theorem two_nat (n : Nat) : Sh.two (n : Int) = ((2 ^ n : Int) : Rat) := by
  rw [two_eq, Rat.zpow_natCast, Rat.intCast_pow]; rfl
theorem two_neg_nat (n : Nat) : Sh.two (-(n : Int)) = 1 / ((2 ^ n : Int) : Rat) := by
  rw [two_eq, Rat.zpow_neg, Rat.zpow_natCast, Rat.intCast_pow]
  have : ((2 : Int) : Rat) = 2 := rfl
  rw [this]; grind
theorem two_le {j k : Int} (h : j ≤ k) : Sh.two j ≤ Sh.two k := by
  obtain ⟨n, hn⟩ := Int.eq_ofNat_of_zero_le (show 0 ≤ k - j by omega)
  have e : k = j + (n : Int) := by omega
  rw [e, two_add, two_nat]
  have h1 := two_pos j
  have h2 : (1 : Rat) ≤ ((2 ^ n : Int) : Rat) := by
    rw [← Rat.intCast_one, Rat.intCast_le_intCast]
    have : (0 : Int) < 2 ^ n := Int.pow_pos (by decide)
    omega
  have := Rat.mul_le_mul_of_nonneg_left h2 (Rat.le_of_lt h1)
  rw [Rat.mul_one] at this
  exact this
theorem two_lt {j k : Int} (h : j < k) : Sh.two j < Sh.two k := by
  have h1 : Sh.two (j + 1) ≤ Sh.two k := two_le (by omega)
  have h2 := two_pos j
  rw [two_add, two_one] at h1
  grind
theorem two_lt_iff {j k : Int} : Sh.two j < Sh.two k ↔ j < k := by
  constructor
  · intro h
    rcases Int.lt_or_le j k with h2 | h2
    · exact h2
    · exact absurd (two_le h2) (Rat.not_le.mpr h)
  · exact two_lt
theorem log2_nat {n : Nat} (h : n ≠ 0) : 2 ^ n.log2 ≤ n ∧ n < 2 ^ (n.log2 + 1) :=
  ⟨(Nat.le_log2 h).mp (Nat.le_refl _), Nat.lt_log2_self⟩
theorem log2_spec {q : Rat} (hq : 0 < q) : Sh.two (Sh.log2 q) ≤ q ∧ q < Sh.two (Sh.log2 q + 1) := by
  have hn : 0 < q.num := by
    have h := num_den q
    rw [h] at hq
    exact (q0lt (by have := q.den_pos; omega)).mp hq
  have hd : 0 < (q.den : Int) := by have := q.den_pos; omega
  have e := num_den q
  obtain ⟨a1, a2⟩ := log2_nat (n := q.num.natAbs) (by omega)
  obtain ⟨b1, b2⟩ := log2_nat (n := q.den) (by omega)
  have en : ((q.num.natAbs : Nat) : Int) = q.num := by omega
  -- cast to Int
  have a1' : (2 : Int) ^ q.num.natAbs.log2 ≤ q.num := by
    have := Int.ofNat_le.mpr a1; rw [Int.natCast_pow, en] at this; exact this
  have a2' : q.num < (2 : Int) ^ (q.num.natAbs.log2 + 1) := by
    have := Int.ofNat_lt.mpr a2; rw [Int.natCast_pow, en] at this; exact this
  have b1' : (2 : Int) ^ q.den.log2 ≤ (q.den : Int) := by
    have := Int.ofNat_le.mpr b1; rw [Int.natCast_pow] at this; exact this
  have b2' : (q.den : Int) < (2 : Int) ^ (q.den.log2 + 1) := by
    have := Int.ofNat_lt.mpr b2; rw [Int.natCast_pow] at this; exact this
  generalize hln : q.num.natAbs.log2 = ln at *
  generalize hld : q.den.log2 = ld at *
  have A1 : Sh.two (ln : Int) ≤ (q.num : Rat) := by rw [two_nat, Rat.intCast_le_intCast]; exact a1'
  have A2 : (q.num : Rat) < Sh.two ((ln : Int) + 1) := by
    have : ((ln : Int) + 1) = ((ln + 1 : Nat) : Int) := by omega
    rw [this, two_nat, Rat.intCast_lt_intCast]; exact a2'
  have B1 : Sh.two (ld : Int) ≤ ((q.den : Int) : Rat) := by rw [two_nat, Rat.intCast_le_intCast]; exact b1'
  have B2 : ((q.den : Int) : Rat) < Sh.two ((ld : Int) + 1) := by
    have : ((ld : Int) + 1) = ((ld + 1 : Nat) : Int) := by omega
    rw [this, two_nat, Rat.intCast_lt_intCast]; exact b2'
  have D := ipos hd
  -- q < two (ln - ld + 1)
  have up : q < Sh.two ((ln : Int) - ld + 1) := by
    rw [e, Rat.div_lt_iff D]
    have h1 : Sh.two ((ln : Int) - ld + 1) * Sh.two (ld : Int) ≤ Sh.two ((ln : Int) - ld + 1) * ((q.den : Int) : Rat) :=
      Rat.mul_le_mul_of_nonneg_left B1 (Rat.le_of_lt (two_pos _))
    have h2 : Sh.two ((ln : Int) - ld + 1) * Sh.two (ld : Int) = Sh.two ((ln : Int) + 1) := by rw [← two_add]; congr 1; omega
    grind
  have lo : Sh.two ((ln : Int) - ld - 1) ≤ q := by
    rw [e, le_div D]
    have h1 : Sh.two ((ln : Int) - ld - 1) * ((q.den : Int) : Rat) ≤ Sh.two ((ln : Int) - ld - 1) * Sh.two ((ld : Int) + 1) :=
      Rat.mul_le_mul_of_nonneg_left (Rat.le_of_lt B2) (Rat.le_of_lt (two_pos _))
    have h2 : Sh.two ((ln : Int) - ld - 1) * Sh.two ((ld : Int) + 1) = Sh.two (ln : Int) := by rw [← two_add]; congr 1; omega
    grind
  unfold Sh.log2
  rw [hln, hld]
  dsimp only
  split
  · rename_i h
    exact ⟨h, up⟩
  · rename_i h
    refine ⟨lo, ?_⟩
    have : (ln : Int) - ld - 1 + 1 = (ln : Int) - ld := by omega
    rw [this]
    exact Rat.not_le.mp h
theorem log2_unique {q : Rat} {k : Int} (h1 : Sh.two k ≤ q) (h2 : q < Sh.two (k + 1)) : Sh.log2 q = k := by
  have hq : 0 < q := by have := two_pos k; grind
  obtain ⟨a, b⟩ := log2_spec hq
  have c1 : Sh.two k < Sh.two (Sh.log2 q + 1) := by grind
  have c2 : Sh.two (Sh.log2 q) < Sh.two (k + 1) := by grind
  rw [two_lt_iff] at c1 c2
  omega
end My
namespace My
open Sh (Fmt How)
theorem pow2_pos (n : Nat) : (0 : Int) < 2 ^ n := Int.pow_pos (by decide)
theorem natpow (n : Nat) : (((2 ^ n : Nat) : Rat)) = ((2 ^ n : Int) : Rat) := by
  rw [Rat.natCast_pow, Rat.intCast_pow]; rfl
noncomputable def fixLo (w : Nat) (s : Bool) : Int := if s = true then -(2 ^ (w - 1)) else 0
noncomputable def fixHi (w : Nat) (s : Bool) : Int := if s = true then 2 ^ (w - 1) - 1 else 2 ^ w - 1
theorem fix_low (w p : Nat) (s : Bool) : (Fmt.fix w p s).low = ((fixLo w s : Int) : Rat) / ((2 ^ p : Int) : Rat) := by
  unfold Fmt.low fixLo
  dsimp only
  cases s
  · rw [if_neg (by decide), if_neg (by decide), Rat.intCast_zero]; grind
  · rw [if_pos rfl, if_pos rfl, natpow, natpow, Rat.intCast_neg]
    grind
theorem fix_high (w p : Nat) (s : Bool) : (Fmt.fix w p s).high = ((fixHi w s : Int) : Rat) / ((2 ^ p : Int) : Rat) := by
  unfold Fmt.high fixHi
  dsimp only
  rw [natpow, natpow]
  cases s
  · rw [if_neg (by decide), if_neg (by decide), Rat.intCast_sub, Rat.intCast_one]
  · rw [if_pos rfl, if_pos rfl, Rat.intCast_sub, Rat.intCast_one]
theorem fix_raw (w p : Nat) (s : Bool) (k : Int) : (Fmt.fix w p s).raw ((k : Rat) / ((2 ^ p : Int) : Rat)) = (k % 2 ^ w).toNat := by
  unfold Fmt.raw
  dsimp only
  rw [natpow, Rat.div_mul_cancel (ine (pow2_pos p)), Rat.floor_intCast]
  congr 2
noncomputable def putFix (w p : Nat) (s : Bool) (mode ends : Nat) (a b : Int) : Nat × Nat :=
  let k := wholeI mode (a * 2 ^ p) b
  let i := if (a * 2 ^ p) % b = 0 then 0 else 1
  if fixLo w s ≤ k ∧ k ≤ fixHi w s then ((k % 2 ^ w).toNat, i)
  else if ends = 0 then ((k % 2 ^ w).toNat, i ||| 4)
  else (((if k < fixLo w s then fixLo w s else fixHi w s) % 2 ^ w).toNat, 5)
theorem whole_exact (mode : Nat) {a b : Int} (_hb : 0 < b) : wholeI mode a b * b = a ↔ a % b = 0 := by
  constructor
  · intro h
    rw [← h]; exact Int.mul_emod_left _ _
  · intro h
    unfold wholeI
    rw [if_pos h]
    exact Int.ediv_mul_cancel (Int.dvd_of_emod_eq_zero h)
theorem put_fix (w p : Nat) (s : Bool) (h : How) {a b : Int} (hb : 0 < b) :
    Sh.put (.fix w p s) h ((a : Rat) / b) = putFix w p s h.mode h.ends a b := by
  have hp := pow2_pos p
  have hu : (Fmt.fix w p s).stepAt ((a : Rat) / b) = 1 / ((2 ^ p : Int) : Rat) := by
    show 1 / ((2 ^ p : Nat) : Rat) = _
    rw [natpow]
  have e1 : (a : Rat) / b / (1 / ((2 ^ p : Int) : Rat)) = ((a * 2 ^ p : Int) : Rat) / b := by
    have h1 := ine hb; have h2 := ine hp
    rw [Rat.intCast_mul]; grind
  unfold Sh.put putFix
  dsimp only
  rw [hu, e1, whole_div _ hb]
  generalize hk : wholeI h.mode (a * 2 ^ p) b = k
  have e2 : (k : Rat) * (1 / ((2 ^ p : Int) : Rat)) = (k : Rat) / ((2 ^ p : Int) : Rat) := by grind
  rw [e2, fix_low, fix_high, fix_raw]
  have e3 : (k * b = a * 2 ^ p) = ((a * 2 ^ p) % b = 0) := by rw [← hk, whole_exact _ hb]
  simp only [qeq hp hb, e3, qle hp hp, qlt hp hp]
  have c1 : (fixLo w s * 2 ^ p ≤ k * 2 ^ p) = (fixLo w s ≤ k) := propext ⟨fun h => Int.le_of_mul_le_mul_right h hp, fun h => Int.mul_le_mul_of_nonneg_right h (Int.le_of_lt hp)⟩
  have c2 : (k * 2 ^ p ≤ fixHi w s * 2 ^ p) = (k ≤ fixHi w s) := propext ⟨fun h => Int.le_of_mul_le_mul_right h hp, fun h => Int.mul_le_mul_of_nonneg_right h (Int.le_of_lt hp)⟩
  have c3 : (k * 2 ^ p < fixLo w s * 2 ^ p) = (k < fixLo w s) := propext ⟨fun h => Int.lt_of_mul_lt_mul_right h (Int.le_of_lt hp), fun h => Int.mul_lt_mul_of_pos_right h hp⟩
  simp only [c1, c2, c3]
  have fl : (Fmt.fix w p s).isFloat = false := rfl
  have e4 : (Fmt.fix w p s).raw (if k < fixLo w s then ((fixLo w s : Int) : Rat) / ((2 ^ p : Int) : Rat) else ((fixHi w s : Int) : Rat) / ((2 ^ p : Int) : Rat)) = ((if k < fixLo w s then fixLo w s else fixHi w s) % 2 ^ w).toNat := by
    split <;> exact fix_raw _ _ _ _
  rw [e4, fl]
  simp only [and_true]
  rfl
end My
namespace My
open Sh (Fmt How)
theorem whole_le {mode : Nat} {x : Rat} {N : Int} (h : x ≤ (N : Rat)) : Sh.whole mode x ≤ N := by
  have f1 := Rat.floor_le x
  have f2 : x.floor ≤ N := Rat.intCast_le_intCast.mp (Rat.le_trans f1 h)
  unfold Sh.whole
  dsimp only
  by_cases d : x - (x.floor : Rat) = 0
  · rw [if_pos d]; exact f2
  · rw [if_neg d]
    have f3 : x.floor + 1 ≤ N := by
      rcases Int.lt_or_le x.floor N with g | g
      · omega
      · have e : x.floor = N := by omega
        exfalso; apply d
        rw [e]
        rw [e] at f1
        grind
    repeat (split)
    all_goals omega
theorem le_whole {mode : Nat} {x : Rat} {N : Int} (h : (N : Rat) ≤ x) : N ≤ Sh.whole mode x := by
  have f2 : N ≤ x.floor := Rat.le_floor_iff.mpr h
  unfold Sh.whole
  dsimp only
  repeat (split)
  all_goals omega
theorem whole_zero (mode : Nat) : Sh.whole mode 0 = 0 := by
  have h : Sh.whole mode 0 = Sh.whole mode ((0 : Int) : Rat) := rfl
  rw [h]
  apply Int.le_antisymm
  · exact whole_le (Rat.le_refl)
  · exact le_whole (Rat.le_refl)
noncomputable def stepF (m M : Nat) (q : Rat) : Rat := Sh.two ((if q = 0 then 1 - (M : Int) else max (Sh.log2 (Sh.size q)) (1 - (M : Int))) - (m : Int))
noncomputable def rawF (m M B : Nat) (q : Rat) : Nat :=
  if q = 0 then 0
  else
    let u := stepF m M q
    let n := (Sh.size q / u).floor.toNat
    let e : Int := Sh.log2 (Sh.size q)
    (if q < 0 then 2 ^ (B - 1) else 0) + (if n < 2 ^ m then n else (e + (M : Int)).toNat * 2 ^ m + (n - 2 ^ m))
noncomputable def highF (m M : Nat) : Rat := ((2 ^ (m + 1) - 1 : Nat) : Rat) * Sh.two ((M : Int) - (m : Int))
theorem raw32 (q : Rat) : Fmt.f32.raw q = rawF 23 127 32 q := rfl
theorem raw64 (q : Rat) : Fmt.f64.raw q = rawF 52 1023 64 q := rfl
theorem high32 : Fmt.f32.high = highF 23 127 := rfl
theorem high64 : Fmt.f64.high = highF 52 1023 := rfl
theorem step32 (q : Rat) : Fmt.f32.stepAt q = stepF 23 127 q := rfl
theorem step64 (q : Rat) : Fmt.f64.stepAt q = stepF 52 1023 q := rfl
noncomputable def rawOf (m M B : Nat) (neg : Bool) (n : Nat) (e : Int) : Nat := (if neg = true then 2 ^ (B - 1) else 0) + (n + (e + M - 1).toNat * 2 ^ m)
theorem size_neg (q : Rat) : Sh.size (-q) = Sh.size q := by
  unfold Sh.size
  split <;> split <;> grind
theorem size_of_nonneg {q : Rat} (h : 0 ≤ q) : Sh.size q = q := by
  unfold Sh.size
  rw [if_neg (Rat.not_lt.mpr h)]
theorem natcast (n : Nat) : (n : Rat) = ((n : Int) : Rat) := by rw [Rat.intCast_natCast]
theorem rawF_of {m M B n : Nat} {e : Int} {neg : Bool} {z : Rat} (hn0 : n ≠ 0) (hn : n ≤ 2 ^ (m + 1)) (he : 1 - (M : Int) ≤ e) (hlow : 2 ^ m ≤ n ∨ e = 1 - (M : Int))
    (hz : z = if neg = true then -((n : Rat) * Sh.two (e - m)) else (n : Rat) * Sh.two (e - m)) : rawF m M B z = rawOf m M B neg n e := by
  have hnp : (0 : Rat) < (n : Rat) := Rat.natCast_pos.mpr (by omega)
  have hpos : 0 < (n : Rat) * Sh.two (e - m) := Rat.mul_pos hnp (two_pos _)
  have hs : Sh.size z = (n : Rat) * Sh.two (e - m) := by
    rw [hz]; cases neg
    · rw [if_neg (by decide)]; exact size_of_nonneg (Rat.le_of_lt hpos)
    · rw [if_pos rfl, size_neg]; exact size_of_nonneg (Rat.le_of_lt hpos)
  have hz0 : z ≠ 0 := by
    rw [hz]; cases neg
    · rw [if_neg (by decide)]; exact Rat.ne_of_gt hpos
    · rw [if_pos rfl]; grind
  have hsg : (z < 0) = (neg = true) := by
    apply propext
    rw [hz]; cases neg
    · rw [if_neg (by decide)]; constructor
      · intro h; grind
      · intro h; cases h
    · rw [if_pos rfl]; constructor
      · intro _; rfl
      · intro _; grind
  unfold rawF rawOf
  rw [if_neg hz0]
  dsimp only
  simp only [hsg]
  congr 1
  unfold stepF
  rw [if_neg hz0, hs]
  have n2 : ∀ k : Nat, ((2 ^ k : Nat) : Rat) = Sh.two (k : Int) := fun k => by rw [two_nat, natpow]
  have fl : ∀ (j : Nat) (u : Rat), 0 < u → ((j : Rat) * u / u).floor.toNat = j := fun j u hu => by
    rw [Rat.mul_div_cancel (Rat.ne_of_gt hu), natcast, Rat.floor_intCast]; rfl
  rcases Nat.lt_or_ge n (2 ^ m) with c1 | c1
  · -- below the first bit: the least exponent
    have e1 : e = 1 - (M : Int) := by omega
    have lt : Sh.log2 ((n : Rat) * Sh.two (e - m)) < e := by
      obtain ⟨a, _⟩ := log2_spec hpos
      have h1 : (n : Rat) * Sh.two (e - m) < Sh.two e := by
        have h2 : (n : Rat) < Sh.two (m : Int) := by rw [← n2]; exact Rat.natCast_lt_natCast.mpr c1
        have h3 := (Rat.mul_lt_mul_right (two_pos (e - m))).mpr h2
        rw [← two_add] at h3
        have e4 : (m : Int) + (e - m) = e := by omega
        rw [e4] at h3; exact h3
      have h5 : Sh.two (Sh.log2 ((n : Rat) * Sh.two (e - m))) < Sh.two e := Rat.not_le.mp fun h => absurd (Rat.le_trans h a) (Rat.not_le.mpr h1)
      exact two_lt_iff.mp h5
    have mx : max (Sh.log2 ((n : Rat) * Sh.two (e - m))) (1 - (M : Int)) = e := by omega
    rw [mx, fl n _ (two_pos _), if_pos c1]
    have : (e + M - 1).toNat = 0 := by omega
    rw [this]; omega
  · rcases Nat.lt_or_ge n (2 ^ (m + 1)) with c2 | c2
    · have lg : Sh.log2 ((n : Rat) * Sh.two (e - m)) = e := by
        apply log2_unique
        · have h2 : Sh.two (m : Int) ≤ (n : Rat) := by rw [← n2]; exact Rat.natCast_le_natCast.mpr c1
          have h3 := Rat.mul_le_mul_of_nonneg_right h2 (Rat.le_of_lt (two_pos (e - m)))
          rw [← two_add] at h3
          have e4 : (m : Int) + (e - m) = e := by omega
          rw [e4] at h3; exact h3
        · have h2 : (n : Rat) < Sh.two ((m + 1 : Nat) : Int) := by rw [← n2]; exact Rat.natCast_lt_natCast.mpr c2
          have h3 := (Rat.mul_lt_mul_right (two_pos (e - m))).mpr h2
          rw [← two_add] at h3
          have e4 : ((m + 1 : Nat) : Int) + (e - m) = e + 1 := by omega
          rw [e4] at h3; exact h3
      have mx : max (Sh.log2 ((n : Rat) * Sh.two (e - m))) (1 - (M : Int)) = e := by omega
      rw [mx, lg, fl n _ (two_pos _), if_neg (by omega)]
      have : (e + M).toNat = (e + M - 1).toNat + 1 := by omega
      rw [this, Nat.add_mul]
      omega
    · have en : n = 2 ^ (m + 1) := by omega
      have lg0 : (n : Rat) * Sh.two (e - m) = Sh.two (e + 1) := by
        rw [en, n2, ← two_add]; congr 1; omega
      have lg : Sh.log2 ((n : Rat) * Sh.two (e - m)) = e + 1 := by
        rw [lg0]
        exact log2_unique Rat.le_refl (two_lt (by omega))
      have mx : max (Sh.log2 ((n : Rat) * Sh.two (e - m))) (1 - (M : Int)) = e + 1 := by omega
      have sp : (n : Rat) * Sh.two (e - m) = ((2 ^ m : Nat) : Rat) * Sh.two (e + 1 - m) := by
        rw [en, n2, n2, ← two_add, ← two_add]; congr 1; omega
      rw [mx, lg, sp, fl (2 ^ m) _ (two_pos _), if_neg (by omega), en]
      have : (e + 1 + M).toNat = (e + M - 1).toNat + 2 := by omega
      rw [this, Nat.add_mul, Nat.pow_succ]
      omega
end My
namespace My
open Sh (Fmt How)
noncomputable def putF (m M B mode : Nat) (q : Rat) : Nat × Nat :=
  let u := stepF m M q
  let z : Rat := (Sh.whole mode (q / u) : Rat) * u
  let i := if z = q then 0 else Sh.INEXACT
  if -highF m M ≤ z ∧ z ≤ highF m M then (rawF m M B z, i)
  else (rawF m M B (if z < -highF m M then -highF m M else highF m M), Sh.INEXACT ||| Sh.ENDED)
theorem put32 (h : How) (q : Rat) : Sh.put .f32 h q = putF 23 127 32 h.mode q := by
  have e : Fmt.f32.low = -highF 23 127 := rfl
  unfold Sh.put putF
  dsimp only
  rw [if_neg (show ¬ (h.ends = 0 ∧ Fmt.f32.isFloat = false) from fun z => nomatch z.2), e, high32, step32]
  simp only [raw32]
theorem put64 (h : How) (q : Rat) : Sh.put .f64 h q = putF 52 1023 64 h.mode q := by
  have e : Fmt.f64.low = -highF 52 1023 := rfl
  unfold Sh.put putF
  dsimp only
  rw [if_neg (show ¬ (h.ends = 0 ∧ Fmt.f64.isFloat = false) from fun z => nomatch z.2), e, high64, step64]
  simp only [raw64]
theorem high_nat (m M : Nat) : highF m M = ((2 ^ (m + 1) - 1 : Nat) : Rat) * Sh.two ((M : Int) - (m : Int)) := rfl
theorem high_pos (m M : Nat) : 0 < highF m M := by
  rw [high_nat]
  refine Rat.mul_pos (Rat.natCast_pos.mpr ?_) (two_pos _)
  have : 2 ^ (m + 1) = 2 ^ m * 2 := Nat.pow_succ _ _
  have := Nat.two_pow_pos m
  omega
theorem putF_zero (m M B mode : Nat) : putF m M B mode 0 = (0, 0) := by
  unfold putF
  dsimp only
  have e : (0 : Rat) / stepF m M 0 = 0 := by grind
  have e2 : ((Sh.whole mode (0 / stepF m M 0) : Int) : Rat) * stepF m M 0 = 0 := by
    rw [e, whole_zero, Rat.intCast_zero]; grind
  rw [e2]
  have h := high_pos m M
  rw [if_pos ⟨by grind, by grind⟩, if_pos rfl]
  rfl
noncomputable def greatest (m M : Nat) : Nat := 2 ^ (m + 1) - 1 + (2 * M - 1) * 2 ^ m
theorem within {m M n : Nat} {e : Int} (hM : 1 ≤ M) (hn : n ≤ 2 ^ (m + 1)) (he : 1 - (M : Int) ≤ e) (hlow : 2 ^ m ≤ n ∨ e = 1 - (M : Int)) :
    (n : Rat) * Sh.two (e - m) ≤ highF m M ↔ n + (e + M - 1).toNat * 2 ^ m ≤ greatest m M := by
  have n2 : ∀ k : Nat, ((2 ^ k : Nat) : Rat) = Sh.two (k : Int) := fun k => by rw [two_nat, natpow]
  have hp := Nat.two_pow_pos m
  have e2 : 2 ^ (m + 1) = 2 ^ m * 2 := Nat.pow_succ _ _
  unfold greatest
  rcases Int.lt_trichotomy e M with c | c | c
  · -- below
    constructor
    · intro _
      have h1 : (e + M - 1).toNat ≤ 2 * M - 2 := by omega
      have h2 := Nat.mul_le_mul_right (2 ^ m) h1
      have h3 : (2 * M - 1) * 2 ^ m = (2 * M - 2) * 2 ^ m + 2 ^ m := by
        have : 2 * M - 1 = 2 * M - 2 + 1 := by omega
        rw [this, Nat.add_mul]; omega
      omega
    · intro _
      have h1 : (n : Rat) * Sh.two (e - m) ≤ ((2 ^ (m + 1) : Nat) : Rat) * Sh.two (e - m) :=
        Rat.mul_le_mul_of_nonneg_right (Rat.natCast_le_natCast.mpr hn) (Rat.le_of_lt (two_pos _))
      have h2 : ((2 ^ (m + 1) : Nat) : Rat) * Sh.two (e - m) = Sh.two (e + 1) := by
        rw [n2, ← two_add]; congr 1; omega
      have h3 : Sh.two (e + 1) ≤ Sh.two M := two_le (by omega)
      have h4 : Sh.two M = ((2 ^ m : Nat) : Rat) * Sh.two ((M : Int) - m) := by
        rw [n2, ← two_add]; congr 1; omega
      have h5 : ((2 ^ m : Nat) : Rat) * Sh.two ((M : Int) - m) ≤ highF m M :=
        Rat.mul_le_mul_of_nonneg_right (Rat.natCast_le_natCast.mpr (by omega)) (Rat.le_of_lt (two_pos _))
      rw [h2] at h1
      rw [← h4] at h5
      exact Rat.le_trans h1 (Rat.le_trans h3 h5)
  · have h1 : (n : Rat) * Sh.two (e - m) ≤ highF m M ↔ n ≤ 2 ^ (m + 1) - 1 := by
      rw [c, high_nat]
      constructor
      · intro h
        exact Rat.natCast_le_natCast.mp (Rat.le_of_mul_le_mul_right h (two_pos _))
      · intro h
        exact Rat.mul_le_mul_of_nonneg_right (Rat.natCast_le_natCast.mpr h) (Rat.le_of_lt (two_pos _))
    rw [h1]
    have h2 : (e + M - 1).toNat = 2 * M - 1 := by omega
    rw [h2]
    omega
  · have g : 2 ^ m ≤ n := by omega
    constructor
    · intro h
      exfalso
      have h1 : ((2 ^ m : Nat) : Rat) * Sh.two (e - m) ≤ (n : Rat) * Sh.two (e - m) :=
        Rat.mul_le_mul_of_nonneg_right (Rat.natCast_le_natCast.mpr g) (Rat.le_of_lt (two_pos _))
      have h2 : ((2 ^ m : Nat) : Rat) * Sh.two (e - m) = Sh.two e := by
        rw [n2, ← two_add]; congr 1; omega
      have h3 : Sh.two (M + 1) ≤ Sh.two e := two_le (by omega)
      have h4 : highF m M < Sh.two (M + 1) := by
        have h5 : Sh.two (M + 1) = ((2 ^ (m + 1) : Nat) : Rat) * Sh.two ((M : Int) - m) := by
          rw [n2, ← two_add]; congr 1; omega
        rw [h5, high_nat]
        exact Rat.mul_lt_mul_of_pos_right (Rat.natCast_lt_natCast.mpr (by omega)) (two_pos _)
      grind
    · intro h
      exfalso
      have h1 : 2 * M ≤ (e + M - 1).toNat := by omega
      have h2 := Nat.mul_le_mul_right (2 ^ m) h1
      have h3 : 2 * M * 2 ^ m = (2 * M - 1) * 2 ^ m + 2 ^ m := by
        have : 2 * M = 2 * M - 1 + 1 := by omega
        rw [this, Nat.add_mul]; simp
      omega
theorem int_signed (n : Int) (u : Rat) : (n : Rat) * u = if decide (n < 0) = true then -((n.natAbs : Rat) * u) else (n.natAbs : Rat) * u := by
  by_cases h : n < 0
  · rw [if_pos (by simpa using h)]
    have e : n = -((n.natAbs : Nat) : Int) := by omega
    have e2 : (n : Rat) = -((n.natAbs : Nat) : Rat) := by
      rw [natcast]
      conv => lhs; rw [e]
      rw [Rat.intCast_neg]
    rw [e2]; grind
  · rw [if_neg (by simpa using h)]
    have e : n = ((n.natAbs : Nat) : Int) := by omega
    have e2 : (n : Rat) = ((n.natAbs : Nat) : Rat) := by
      rw [natcast, ← e]
    rw [← e2]
theorem size_pos {q : Rat} (h : q ≠ 0) : 0 < Sh.size q := by
  unfold Sh.size
  split <;> grind
theorem size_bounds {q : Rat} : -Sh.size q ≤ q ∧ q ≤ Sh.size q := by
  unfold Sh.size
  split <;> grind
theorem whole_size {m M mode : Nat} {q : Rat} (hq : q ≠ 0) {e : Int} (he : e = max (Sh.log2 (Sh.size q)) (1 - (M : Int))) :
    (Sh.whole mode (q / Sh.two (e - m))).natAbs ≤ 2 ^ (m + 1) ∧ (2 ^ m ≤ (Sh.whole mode (q / Sh.two (e - m))).natAbs ∨ e = 1 - (M : Int)) ∧ (Sh.whole mode (q / Sh.two (e - m)) < 0 → q < 0) ∧ (0 < Sh.whole mode (q / Sh.two (e - m)) → 0 < q) := by
  have n2 : ∀ k : Nat, ((2 ^ k : Int) : Rat) = Sh.two (k : Int) := fun k => by rw [two_nat]
  obtain ⟨s1, s2⟩ := log2_spec (size_pos hq)
  obtain ⟨b1, b2⟩ := size_bounds (q := q)
  have up : Sh.size q < Sh.two (e + 1) := by
    have : Sh.two (Sh.log2 (Sh.size q) + 1) ≤ Sh.two (e + 1) := two_le (by omega)
    grind
  have hu := two_pos (e - m)
  have t1 : Sh.two (e + 1) = Sh.two ((m + 1 : Nat) : Int) * Sh.two (e - m) := by rw [← two_add]; congr 1; omega
  have cN : ((((2 ^ (m + 1) : Nat) : Int)) : Rat) = Sh.two ((m + 1 : Nat) : Int) := by rw [Int.natCast_pow]; exact n2 (m + 1)
  refine ⟨?_, ?_, ?_, ?_⟩
  · have h1 : Sh.whole mode (q / Sh.two (e - m)) ≤ ((2 ^ (m + 1) : Nat) : Int) := by
      apply whole_le
      rw [div_le hu, cN, ← t1]; grind
    have h2 : -((2 ^ (m + 1) : Nat) : Int) ≤ Sh.whole mode (q / Sh.two (e - m)) := by
      apply le_whole
      rw [le_div hu, Rat.intCast_neg, cN]
      have : -Sh.two ((m + 1 : Nat) : Int) * Sh.two (e - m) = -Sh.two (e + 1) := by rw [t1]; grind
      rw [this]; grind
    omega
  · by_cases c : e = 1 - (M : Int)
    · exact .inr c
    · left
      have e1 : e = Sh.log2 (Sh.size q) := by omega
      have lo : Sh.two e ≤ Sh.size q := by rw [e1]; exact s1
      have t0 : Sh.two e = Sh.two ((m : Nat) : Int) * Sh.two (e - m) := by rw [← two_add]; congr 1; omega
      have cM : ((((2 ^ m : Nat) : Int)) : Rat) = Sh.two ((m : Nat) : Int) := by rw [Int.natCast_pow]; exact n2 m
      by_cases g : q < 0
      · have h1 : Sh.whole mode (q / Sh.two (e - m)) ≤ -((2 ^ m : Nat) : Int) := by
          apply whole_le
          rw [div_le hu, Rat.intCast_neg, cM]
          have : -Sh.two ((m : Nat) : Int) * Sh.two (e - m) = -Sh.two e := by rw [t0]; grind
          rw [this]
          unfold Sh.size at lo; rw [if_pos g] at lo; grind
        omega
      · have h1 : ((2 ^ m : Nat) : Int) ≤ Sh.whole mode (q / Sh.two (e - m)) := by
          apply le_whole
          rw [le_div hu, cM, ← t0]
          unfold Sh.size at lo; rw [if_neg g] at lo; exact lo
        omega
  · intro h
    apply Rat.not_le.mp
    intro g
    have : (0 : Int) ≤ Sh.whole mode (q / Sh.two (e - m)) := by
      apply le_whole
      rw [le_div hu, Rat.intCast_zero]; grind
    omega
  · intro h
    apply Rat.not_le.mp
    intro g
    have : Sh.whole mode (q / Sh.two (e - m)) ≤ (0 : Int) := by
      apply whole_le
      rw [div_le hu, Rat.intCast_zero]; grind
    omega
theorem raw_high (m M B : Nat) (hM : 1 ≤ M) (neg : Bool) : rawF m M B (if neg = true then -highF m M else highF m M) = rawOf m M B neg (2 ^ (m + 1) - 1) M := by
  have hp := Nat.two_pow_pos m
  have e2 : 2 ^ (m + 1) = 2 ^ m * 2 := Nat.pow_succ _ _
  exact rawF_of (n := 2 ^ (m + 1) - 1) (e := (M : Int)) (neg := neg) (by omega) (by omega) (by omega) (by omega) rfl
theorem rawOf_greatest (m M B : Nat) (hM : 1 ≤ M) (neg : Bool) : rawOf m M B neg (2 ^ (m + 1) - 1) M = (if neg = true then 2 ^ (B - 1) else 0) + greatest m M := by
  unfold rawOf greatest
  have : ((M : Int) + M - 1).toNat = 2 * M - 1 := by omega
  rw [this]
theorem putF_eq {m M B mode : Nat} {q : Rat} (hM : 1 ≤ M) (hq : q ≠ 0) {e : Int} (he : e = max (Sh.log2 (Sh.size q)) (1 - (M : Int))) {n : Int} (hn : n = Sh.whole mode (q / Sh.two (e - m))) :
    putF m M B mode q = if n.natAbs + (e + M - 1).toNat * 2 ^ m ≤ greatest m M then (rawOf m M B (decide (n < 0)) n.natAbs e, if (n : Rat) * Sh.two (e - m) = q then 0 else 1) else ((if n < 0 then 2 ^ (B - 1) else 0) + greatest m M, 5) := by
  obtain ⟨w1, w2, w3, w4⟩ := whole_size (m := m) (mode := mode) hq he
  rw [← hn] at w1 w2 w3 w4
  have he2 : 1 - (M : Int) ≤ e := by omega
  have hs : stepF m M q = Sh.two (e - m) := by
    unfold stepF; rw [if_neg hq, he]
  have wi := within (m := m) hM w1 he2 w2
  have hh := high_pos m M
  have sg := int_signed n (Sh.two (e - m))
  have nn : (0 : Rat) ≤ (n.natAbs : Rat) * Sh.two (e - m) := Rat.mul_nonneg Rat.natCast_nonneg (Rat.le_of_lt (two_pos _))
  unfold putF
  dsimp only
  rw [hs, ← hn]
  by_cases c : n.natAbs + (e + M - 1).toNat * 2 ^ m ≤ greatest m M
  · rw [if_pos c]
    have c2 := wi.mpr c
    have inb : -highF m M ≤ (n : Rat) * Sh.two (e - m) ∧ (n : Rat) * Sh.two (e - m) ≤ highF m M := by
      rw [sg]; split
      · constructor <;> grind
      · constructor <;> grind
    rw [if_pos inb]
    congr 1
    by_cases n0 : n = 0
    · subst n0
      have e1 : e = 1 - (M : Int) := by
        have := Nat.two_pow_pos m
        rcases w2 with g | g
        · exfalso; have : (0 : Int).natAbs = 0 := rfl; omega
        · exact g
      have z : ((0 : Int) : Rat) * Sh.two (e - m) = 0 := by rw [Rat.intCast_zero]; grind
      rw [z]
      unfold rawF rawOf
      rw [if_pos rfl]
      have : (e + M - 1).toNat = 0 := by omega
      rw [this]
      simp
    · exact rawF_of (n := n.natAbs) (e := e) (neg := decide (n < 0)) (by omega) w1 he2 w2 sg
  · rw [if_neg c]
    have c2 : highF m M < (n.natAbs : Rat) * Sh.two (e - m) := Rat.not_le.mp fun h => c (wi.mp h)
    have out : ¬ (-highF m M ≤ (n : Rat) * Sh.two (e - m) ∧ (n : Rat) * Sh.two (e - m) ≤ highF m M) := by
      rw [sg]; split <;> grind
    rw [if_neg out]
    have s2 : ((n : Rat) * Sh.two (e - m) < -highF m M) = (n < 0) := by
      apply propext
      rw [sg]
      by_cases g : n < 0
      · rw [if_pos (by simpa using g)]; constructor
        · intro _; exact g
        · intro _; grind
      · rw [if_neg (by simpa using g)]; constructor
        · intro _; grind
        · intro h; exact absurd h g
    simp only [s2]
    have r := raw_high m M B hM (decide (n < 0))
    have r2 := rawOf_greatest m M B hM (decide (n < 0))
    simp only [decide_eq_true_eq] at r r2
    rw [r, r2]
    rfl
end My
namespace My
open Sh (Fmt How)
end My
namespace My
open Sh (Fmt How)
theorem two_q (k : Int) : Sh.two k = ((2 ^ k.toNat : Int) : Rat) / ((2 ^ (-k).toNat : Int) : Rat) := by
  rcases Int.le_total 0 k with h | h
  · obtain ⟨n, rfl⟩ := Int.eq_ofNat_of_zero_le h
    rw [two_nat]
    have e : (-(n : Int)).toNat = 0 := by omega
    rw [e, Int.toNat_natCast, Int.pow_zero, Rat.intCast_one]; grind
  · obtain ⟨n, hn⟩ := Int.eq_ofNat_of_zero_le (show 0 ≤ -k by omega)
    have e : k = -(n : Int) := by omega
    subst e
    rw [two_neg_nat]
    have e : (-(n : Int)).toNat = 0 := by omega
    rw [e, Int.neg_neg, Int.toNat_natCast, Int.pow_zero, Rat.intCast_one]
theorem ten_eq (k : Int) : Sh.ten k = (10 : Rat) ^ k := by
  unfold Sh.ten
  split
  · rename_i h
    obtain ⟨n, rfl⟩ := Int.eq_ofNat_of_zero_le h
    rw [Rat.zpow_natCast, Rat.natCast_pow]
    rfl
  · rename_i h
    obtain ⟨n, hn⟩ := Int.eq_ofNat_of_zero_le (show 0 ≤ -k by omega)
    have e : k = -(n : Int) := by omega
    rw [e, Rat.zpow_neg, Rat.zpow_natCast, Int.neg_neg, Int.toNat_natCast, Rat.natCast_pow]
    have : ((10 : Nat) : Rat) = 10 := rfl
    rw [this]
    grind
theorem ten_nat (n : Nat) : Sh.ten (n : Int) = ((10 ^ n : Int) : Rat) := by
  rw [ten_eq, Rat.zpow_natCast, Rat.intCast_pow]; rfl
theorem ten_neg_nat (n : Nat) : Sh.ten (-(n : Int)) = 1 / ((10 ^ n : Int) : Rat) := by
  rw [ten_eq, Rat.zpow_neg, Rat.zpow_natCast, Rat.intCast_pow]
  have : ((10 : Int) : Rat) = 10 := rfl
  rw [this]; grind
theorem ten_q (k : Int) : Sh.ten k = ((10 ^ k.toNat : Int) : Rat) / ((10 ^ (-k).toNat : Int) : Rat) := by
  rcases Int.le_total 0 k with h | h
  · obtain ⟨n, rfl⟩ := Int.eq_ofNat_of_zero_le h
    rw [ten_nat]
    have e : (-(n : Int)).toNat = 0 := by omega
    rw [e, Int.toNat_natCast, Int.pow_zero, Rat.intCast_one]; grind
  · obtain ⟨n, hn⟩ := Int.eq_ofNat_of_zero_le (show 0 ≤ -k by omega)
    have e : k = -(n : Int) := by omega
    subst e
    rw [ten_neg_nat]
    have e : (-(n : Int)).toNat = 0 := by omega
    rw [e, Int.neg_neg, Int.toNat_natCast, Int.pow_zero, Rat.intCast_one]
theorem pow10_pos (n : Nat) : (0 : Int) < 10 ^ n := Int.pow_pos (by decide)
end My
namespace My
open Sh (isDigit numeral numberOf exponentOf MOST)
inductive St where
  | s0 | s1 | int (n : Nat) | pt (n : Nat) | fr (n : Nat) | e0 | e1 | ed (k : Nat) | sl (n : Nat) | dn (n : Nat) (z : Bool)
  deriving DecidableEq
noncomputable def stp : St → UInt8 → Option St
  | .s0, c => if c = 45 then some .s1 else if isDigit c = true then some (.int 1) else none
  | .s1, c => if isDigit c = true then some (.int 1) else none
  | .int n, c => if isDigit c = true then (if n < 40 then some (.int (n + 1)) else none)
    else if c = 46 then (if n < 40 then some (.pt n) else none)
    else if c = 101 then some .e0
    else if c = 47 then (if n < 40 then some (.sl n) else none)
    else none
  | .pt n, c => if isDigit c = true then some (.fr (n + 1)) else none
  | .fr n, c => if isDigit c = true then (if n < 40 then some (.fr (n + 1)) else none)
    else if c = 101 then some .e0 else none
  | .e0, c => if c = 45 then some .e1 else if isDigit c = true then some (.ed 1) else none
  | .e1, c => if isDigit c = true then some (.ed 1) else none
  | .ed k, c => if isDigit c = true then (if k < 3 then some (.ed (k + 1)) else none) else none
  | .sl n, c => if isDigit c = true then (if c = 48 then (if n + 1 < 40 then some (.dn (n + 1) false) else none) else some (.dn (n + 1) true)) else none
  | .dn n z, c => if isDigit c = true then (if n < 40 then (if z = true ∨ c ≠ 48 then some (.dn (n + 1) true) else if n + 1 < 40 then some (.dn (n + 1) false) else none) else none) else none
noncomputable def acc : Option St → Bool
  | some (.int _) => true
  | some (.fr _) => true
  | some (.ed _) => true
  | some (.dn _ z) => z
  | _ => false
noncomputable def go (s : Option St) (t : List UInt8) : Option St := t.foldl (fun s c => s.bind (stp · c)) s
theorem go_nil (s : Option St) : go s [] = s := rfl
theorem go_cons (s : St) (c : UInt8) (t : List UInt8) : go (some s) (c :: t) = go (stp s c) t := rfl
theorem go_none (t : List UInt8) : go none t = none := by
  induction t with
  | nil => rfl
  | cons c t ih => exact ih
theorem go_append (s : Option St) (a b : List UInt8) : go s (a ++ b) = go (go s a) b := List.foldl_append
noncomputable def Lv : St → Prop
  | .int n => 1 ≤ n ∧ n ≤ 40
  | .pt n => 1 ≤ n ∧ n < 40
  | .fr n => 1 ≤ n ∧ n ≤ 40
  | .ed k => 1 ≤ k ∧ k ≤ 3
  | .sl n => 1 ≤ n ∧ n < 40
  | .dn n z => 1 ≤ n ∧ n ≤ 40 ∧ (z = false → n < 40)
  | _ => True
theorem stp_lv {s s' : St} {c : UInt8} (h : Lv s) (e : stp s c = some s') : Lv s' := by
  cases s <;> unfold stp at e <;> dsimp only at e <;> repeat' (split at e) <;> try cases e
  all_goals (try (unfold Lv at *; dsimp only at *; first | trivial | omega | skip))
  all_goals (try (refine ⟨by omega, by omega, ?_⟩; intro q; first | cases q | omega))
theorem go_lv {s s' : St} : ∀ {t : List UInt8}, Lv s → go (some s) t = some s' → Lv s'
  | [], h, e => by cases e; exact h
  | c :: t, h, e => by
    rw [go_cons] at e
    cases q : stp s c with
    | none => rw [q, go_none] at e; cases e
    | some s2 => rw [q] at e; exact go_lv (stp_lv h q) e
theorem live_acc {s : St} (h : Lv s) : (acc (some s) || acc (stp s 49)) = true := by
  have d : isDigit 49 = true := by decide
  cases s with
  | dn n z =>
    obtain ⟨h1, h2, h3⟩ := h
    cases z
    · have := h3 rfl
      have e : stp (.dn n false) 49 = some (.dn (n + 1) true) := by
        unfold stp; dsimp only; rw [if_pos d, if_pos this, if_pos (.inr (by decide))]
      rw [e]; rfl
    · rfl
  | pt n => rfl
  | sl n => rfl
  | _ => first | rfl | (simp [acc, stp, d])
theorem go_int : ∀ (a : List UInt8) (n : Nat), a.all isDigit = true → n ≤ 40 → go (some (.int n)) a = if n + a.length ≤ 40 then some (.int (n + a.length)) else none
  | [], n, _, h => by rw [go_nil, List.length_nil, Nat.add_zero, if_pos h]
  | c :: a, n, h, hn => by
    rw [List.all_cons, Bool.and_eq_true] at h
    rw [go_cons]
    unfold stp
    dsimp only
    rw [if_pos h.1]
    by_cases g : n < 40
    · rw [if_pos g, go_int a (n + 1) h.2 (by omega), List.length_cons]
      have : n + 1 + a.length = n + (a.length + 1) := by omega
      rw [this]
    · rw [if_neg g, go_none, if_neg (by rw [List.length_cons]; omega)]
theorem go_fr : ∀ (a : List UInt8) (n : Nat), a.all isDigit = true → n ≤ 40 → go (some (.fr n)) a = if n + a.length ≤ 40 then some (.fr (n + a.length)) else none
  | [], n, _, h => by rw [go_nil, List.length_nil, Nat.add_zero, if_pos h]
  | c :: a, n, h, hn => by
    rw [List.all_cons, Bool.and_eq_true] at h
    rw [go_cons]
    unfold stp
    dsimp only
    rw [if_pos h.1]
    by_cases g : n < 40
    · rw [if_pos g, go_fr a (n + 1) h.2 (by omega), List.length_cons]
      have : n + 1 + a.length = n + (a.length + 1) := by omega
      rw [this]
    · rw [if_neg g, go_none, if_neg (by rw [List.length_cons]; omega)]
theorem go_ed : ∀ (a : List UInt8) (n : Nat), n ≤ 3 → go (some (.ed n)) a = if a.all isDigit = true ∧ n + a.length ≤ 3 then some (.ed (n + a.length)) else none
  | [], n, h => by rw [go_nil, List.length_nil, Nat.add_zero, if_pos ⟨rfl, h⟩]
  | c :: a, n, hn => by
    rw [go_cons]
    unfold stp
    dsimp only
    by_cases g0 : isDigit c = true
    · rw [if_pos g0]
      by_cases g : n < 3
      · rw [if_pos g, go_ed a (n + 1) (by omega), List.length_cons, List.all_cons, g0, Bool.true_and]
        have : n + 1 + a.length = n + (a.length + 1) := by omega
        rw [this]
      · rw [if_neg g, go_none, if_neg (by rw [List.length_cons]; omega)]
    · rw [if_neg g0, go_none, if_neg (by rw [List.all_cons, Bool.and_eq_true]; intro h; exact g0 h.1.1)]
noncomputable def nz (a : List UInt8) : Bool := a.any (· != 48)
theorem go_dn : ∀ (a : List UInt8) (n : Nat) (z : Bool), Lv (.dn n z) → acc (go (some (.dn n z)) a) = (a.all isDigit && decide (n + a.length ≤ 40) && (z || nz a))
  | [], n, z, h => by
    have : n ≤ 40 := h.2.1
    rw [go_nil]
    simp [acc, nz, this]
  | c :: a, n, z, hl => by
    rw [go_cons]
    unfold stp
    dsimp only
    obtain ⟨l1, l2, l3⟩ := hl
    by_cases g0 : isDigit c = true
    · rw [if_pos g0]
      by_cases g : n < 40
      · rw [if_pos g]
        by_cases g1 : z = true ∨ c ≠ 48
        · rw [if_pos g1, go_dn a (n + 1) true ⟨by omega, by omega, by intro q; cases q⟩]
          have : n + 1 + a.length = n + (a.length + 1) := by omega
          rw [this, List.length_cons, List.all_cons, g0, Bool.true_and, Bool.true_or]
          have : (z || nz (c :: a)) = true := by
            unfold nz
            rcases g1 with g1 | g1
            · rw [g1]; rfl
            · rw [List.any_cons, bne_iff_ne.mpr g1]; simp
          rw [this]
        · rw [if_neg g1]
          have z0 : z = false := by
            cases z
            · rfl
            · exact absurd (.inl rfl) g1
          have c0 : c = 48 := by
            by_cases e : c = 48
            · exact e
            · exact absurd (.inr e) g1
          subst z0 c0
          have nzc : nz (48 :: a) = nz a := by unfold nz; rw [List.any_cons]; rfl
          by_cases g2 : n + 1 < 40
          · rw [if_pos g2, go_dn a (n + 1) false ⟨by omega, by omega, fun _ => g2⟩]
            have : n + 1 + a.length = n + (a.length + 1) := by omega
            rw [this, List.length_cons, List.all_cons, g0, Bool.true_and, nzc]
          · rw [if_neg g2, go_none]
            rw [nzc]
            symm
            show _ = false
            rw [Bool.and_eq_false_iff, Bool.and_eq_false_iff]
            cases a with
            | nil => exact .inr rfl
            | cons b a => exact .inl (.inr (by rw [decide_eq_false_iff_not, List.length_cons, List.length_cons]; omega))
      · rw [if_neg g, go_none]
        symm
        show _ = false
        rw [Bool.and_eq_false_iff, Bool.and_eq_false_iff]
        exact .inl (.inr (by rw [decide_eq_false_iff_not, List.length_cons]; omega))
    · rw [if_neg g0, go_none]
      have : isDigit c = false := by simpa using g0
      rw [List.all_cons, this]; rfl
theorem acc_sl (a : List UInt8) (n : Nat) (h1 : 1 ≤ n) (hn : n < 40) : acc (go (some (.sl n)) a) = (a.all isDigit && decide (n + a.length ≤ 40) && nz a) := by
  cases a with
  | nil => simp [go_nil, acc, nz]
  | cons c a =>
    rw [go_cons]
    unfold stp
    dsimp only
    by_cases g0 : isDigit c = true
    · rw [if_pos g0]
      have e : n + (c :: a).length = n + 1 + a.length := by rw [List.length_cons]; omega
      rw [e, List.all_cons, g0, Bool.true_and]
      by_cases c0 : c = 48
      · subst c0
        have nzc : nz (48 :: a) = nz a := by unfold nz; rw [List.any_cons]; rfl
        rw [if_pos rfl, nzc]
        by_cases g2 : n + 1 < 40
        · rw [if_pos g2, go_dn a (n + 1) false ⟨by omega, by omega, fun _ => g2⟩, Bool.false_or]
        · rw [if_neg g2, go_none]
          symm
          show _ = false
          rw [Bool.and_eq_false_iff, Bool.and_eq_false_iff]
          cases a with
          | nil => exact .inr rfl
          | cons b a => exact .inl (.inr (by rw [decide_eq_false_iff_not, List.length_cons]; omega))
      · rw [if_neg c0, go_dn a (n + 1) true ⟨by omega, by omega, by intro q; cases q⟩]
        have : nz (c :: a) = true := by unfold nz; rw [List.any_cons, bne_iff_ne.mpr c0]; rfl
        rw [this, Bool.true_or]
    · rw [if_neg g0, go_none]
      have : isDigit c = false := by simpa using g0
      rw [List.all_cons, this]; rfl
theorem acc_e (x : List UInt8) : acc (go (some .e0) x) = (exponentOf x).isSome := by
  have core : ∀ d : List UInt8, acc (match d with | [] => none | c :: d => go (if isDigit c = true then some (.ed 1) else none) d) = decide (1 ≤ d.length ∧ d.length ≤ 3 ∧ d.all isDigit = true) := by
    intro d
    cases d with
    | nil => rfl
    | cons c d =>
      dsimp only
      by_cases g0 : isDigit c = true
      · rw [if_pos g0, go_ed d 1 (by decide)]
        by_cases g : d.all isDigit = true ∧ 1 + d.length ≤ 3
        · rw [if_pos g]
          symm
          show decide _ = true
          rw [decide_eq_true_eq, List.all_cons, g0, Bool.true_and, List.length_cons]
          exact ⟨by omega, by omega, g.1⟩
        · rw [if_neg g]
          symm
          show decide _ = false
          rw [decide_eq_false_iff_not, List.all_cons, g0, Bool.true_and, List.length_cons]
          intro h
          exact g ⟨h.2.2, by omega⟩
      · rw [if_neg g0, go_none]
        symm
        show decide _ = false
        rw [decide_eq_false_iff_not, List.all_cons, Bool.and_eq_true]
        intro h
        exact g0 h.2.2.1
  cases x with
  | nil => rfl
  | cons c x =>
    rw [go_cons]
    unfold stp
    dsimp only
    by_cases c0 : c = 45
    · subst c0
      have ex : (exponentOf (45 :: x)).isSome = decide (1 ≤ x.length ∧ x.length ≤ 3 ∧ x.all isDigit = true) := by
        unfold exponentOf
        simp only [List.head?_cons, if_true, List.drop_succ_cons, List.drop_zero]
        split <;> simp_all
      rw [if_pos rfl, ex, ← core x]
      cases x <;> rfl
    · have ex : (exponentOf (c :: x)).isSome = decide (1 ≤ (c :: x).length ∧ (c :: x).length ≤ 3 ∧ (c :: x).all isDigit = true) := by
        unfold exponentOf
        simp only [List.head?_cons, Option.some.injEq, c0, if_false]
        split <;> simp_all
      rw [if_neg c0, ex, ← core (c :: x)]
theorem tw_all (l : List UInt8) : (l.takeWhile isDigit).all isDigit = true := by
  induction l with
  | nil => rfl
  | cons c l ih =>
    rw [List.takeWhile_cons]
    split
    · rename_i h; rw [List.all_cons, h, ih]; rfl
    · rfl
theorem tw_drop_head : ∀ (l : List UInt8) (c : UInt8) (r : List UInt8), l.drop (l.takeWhile isDigit).length = c :: r → isDigit c = false
  | [], c, r, h => by simp at h
  | b :: l, c, r, h => by
    rw [List.takeWhile_cons] at h
    by_cases g : isDigit b = true
    · rw [if_pos g, List.length_cons, List.drop_succ_cons] at h
      exact tw_drop_head l c r h
    · rw [if_neg g, List.length_nil, List.drop_zero] at h
      cases h
      simpa using g
theorem tw_split (l : List UInt8) : l = l.takeWhile isDigit ++ l.drop (l.takeWhile isDigit).length := by
  induction l with
  | nil => rfl
  | cons c l ih =>
    rw [List.takeWhile_cons]
    split
    · rw [List.length_cons, List.drop_succ_cons, List.cons_append, ← ih]
    · rfl
theorem numberOf_nz (l : List UInt8) (h : l.all isDigit = true) : (numberOf l ≠ 0) = (nz l = true) := by
  have key : ∀ (l : List UInt8) (n : Nat), l.all isDigit = true → ((l.foldl (fun (n : Nat) (c : UInt8) => 10 * n + (c.toNat - 48)) n ≠ 0) ↔ (n ≠ 0 ∨ nz l = true)) := by
    intro l
    induction l with
    | nil => intro n _; simp [nz]
    | cons c l ih =>
      intro n h
      rw [List.all_cons, Bool.and_eq_true] at h
      rw [List.foldl_cons, ih _ h.2]
      have hd := h.1
      unfold isDigit at hd
      rw [Bool.and_eq_true, decide_eq_true_eq, decide_eq_true_eq] at hd
      have g1 : 48 ≤ c.toNat := hd.1
      have e : (c.toNat - 48 ≠ 0) ↔ c ≠ 48 := by
        constructor
        · intro a b; subst b; exact a rfl
        · intro a b
          apply a
          apply UInt8.toNat_inj.mp
          show c.toNat = 48
          omega
      have nzc : nz (c :: l) = ((c != 48) || nz l) := by unfold nz; rw [List.any_cons]
      have e2 : (10 * n + (c.toNat - 48) ≠ 0) ↔ (n ≠ 0 ∨ c.toNat - 48 ≠ 0) := by omega
      rw [nzc, Bool.or_eq_true, bne_iff_ne, ← e, e2, or_assoc]
  have := key l 0 h
  apply propext
  unfold numberOf
  rw [this]
  simp
noncomputable def numV (neg : Bool) (a b v : List UInt8) (point : Bool) : Option Rat :=
  if a = [] ∨ (point = true ∧ b = []) ∨ MOST < a.length + b.length then none
  else if v = [] then some (Sh.signed neg (((numberOf (a ++ b) : Nat) : Rat) * Sh.ten (-(b.length : Int))))
  else if v.head? = some 101 then (exponentOf (v.drop 1)).map fun (e : Int) => Sh.signed neg (((numberOf (a ++ b) : Nat) : Rat) * Sh.ten (e - (b.length : Int)))
  else if v.head? = some 47 ∧ point = false ∧ v.drop 1 ≠ [] ∧ (v.drop 1).all isDigit = true ∧ a.length + (v.drop 1).length ≤ MOST ∧ numberOf (v.drop 1) ≠ 0 then some (Sh.signed neg (((numberOf a : Nat) : Rat) / ((numberOf (v.drop 1) : Nat) : Rat)))
  else none
noncomputable def ptOf (u : List UInt8) : Bool := u.head? == some 46
noncomputable def bOf (u : List UInt8) : List UInt8 := if ptOf u = true then (u.drop 1).takeWhile isDigit else []
noncomputable def vOf (u : List UInt8) : List UInt8 := if ptOf u = true then u.drop (1 + (bOf u).length) else u
noncomputable def rOf (t : List UInt8) : List UInt8 := if t.head? = some 45 then t.drop 1 else t
theorem numeral_V (t : List UInt8) : numeral t = numV (t.head? == some 45) ((rOf t).takeWhile isDigit) (bOf ((rOf t).drop ((rOf t).takeWhile isDigit).length)) (vOf ((rOf t).drop ((rOf t).takeWhile isDigit).length)) (ptOf ((rOf t).drop ((rOf t).takeWhile isDigit).length)) := rfl
theorem ptOf_cons (c : UInt8) (u : List UInt8) : ptOf (c :: u) = decide (c = 46) := by
  unfold ptOf
  rw [List.head?_cons]
  by_cases h : c = 46
  · subst h; rfl
  · rw [decide_eq_false h, beq_eq_false_iff_ne]; exact fun e => h (Option.some.inj e)
theorem numV_none1 {neg : Bool} {a b v : List UInt8} {p : Bool} (h : a = [] ∨ (p = true ∧ b = []) ∨ 40 < a.length + b.length) : numV neg a b v p = none := by
  unfold numV; exact if_pos h
theorem numV_some {neg : Bool} {a b v : List UInt8} {p : Bool} (h1 : a ≠ []) (h2 : p = true → b ≠ []) (h3 : a.length + b.length ≤ 40) :
    (numV neg a b v p).isSome = (match v with | [] => true | c :: v => if c = 101 then (exponentOf v).isSome else decide (c = 47 ∧ p = false ∧ v ≠ [] ∧ v.all isDigit = true ∧ a.length + v.length ≤ 40 ∧ numberOf v ≠ 0)) := by
  unfold numV
  rw [if_neg (by
    intro h
    rcases h with h | h | h
    · exact h1 h
    · exact h2 h.1 h.2
    · simp only [MOST] at h; omega)]
  cases v with
  | nil => rw [if_pos rfl]; rfl
  | cons c v =>
    rw [if_neg (List.cons_ne_nil _ _)]
    have dr : List.drop 1 (c :: v) = v := rfl
    rw [dr]
    simp only [List.head?_cons, Option.some.injEq]
    by_cases ce : c = 101
    · rw [if_pos ce, if_pos ce, Option.isSome_map]
    · rw [if_neg ce, if_neg ce]
      split
      · rename_i h; rw [decide_eq_true (show c = 47 ∧ p = false ∧ v ≠ [] ∧ v.all isDigit = true ∧ a.length + v.length ≤ 40 ∧ numberOf v ≠ 0 from h)]; rfl
      · rename_i h; rw [decide_eq_false (show ¬ (c = 47 ∧ p = false ∧ v ≠ [] ∧ v.all isDigit = true ∧ a.length + v.length ≤ 40 ∧ numberOf v ≠ 0) from h)]; rfl
theorem numeral_acc (t : List UInt8) : (numeral t).isSome = acc (go (some .s0) t) := by
  have sg : acc (go (some .s0) t) = acc (go (some .s1) (rOf t)) := by
    cases t with
    | nil => rfl
    | cons c t =>
      by_cases c0 : c = 45
      · subst c0; rfl
      · have e : rOf (c :: t) = c :: t := by unfold rOf; exact if_neg (fun h => c0 (Option.some.inj h))
        rw [e, go_cons, go_cons]
        unfold stp
        dsimp only
        rw [if_neg c0]
  rw [sg, numeral_V]
  generalize (t.head? == some 45) = neg
  generalize rOf t = r
  have ra := tw_split r
  have aa := tw_all r
  have hh := tw_drop_head r
  generalize r.takeWhile isDigit = a at *
  generalize r.drop a.length = u at *
  subst ra
  cases a with
  | nil =>
    rw [numV_none1 (.inl rfl), List.nil_append]
    cases u with
    | nil => rfl
    | cons c u =>
      rw [go_cons]
      unfold stp
      dsimp only
      rw [if_neg (by rw [hh c u rfl]; decide), go_none]; rfl
  | cons d a =>
    have a1 : go (some .s1) (d :: a ++ u) = go (if 1 + a.length ≤ 40 then some (.int (1 + a.length)) else none) u := by
      rw [List.all_cons, Bool.and_eq_true] at aa
      rw [List.cons_append, go_cons]
      unfold stp
      dsimp only
      rw [if_pos aa.1, go_append, go_int a 1 aa.2 (by decide)]
    rw [a1]
    have la : (d :: a).length = 1 + a.length := by rw [List.length_cons]; omega
    generalize hA : d :: a = A at *
    have A0 : A ≠ [] := by rw [← hA]; exact List.cons_ne_nil _ _
    have l1 : 1 ≤ A.length := by rw [la]; omega
    rw [← la]
    by_cases m1 : A.length ≤ 40
    · rw [if_pos m1]
      cases u with
      | nil =>
        have e1 : ptOf [] = false := rfl
        have e2 : bOf [] = [] := rfl
        have e3 : vOf [] = [] := rfl
        rw [e1, e2, e3, numV_some A0 (by intro h; cases h) (by simpa using m1)]
        rfl
      | cons c u =>
        have cd : isDigit c = false := hh c u rfl
        have cd2 : ¬ isDigit c = true := by rw [cd]; decide
        rw [go_cons]
        unfold stp
        dsimp only
        rw [if_neg cd2]
        by_cases c46 : c = 46
        · subst c46
          have e1 : ptOf (46 :: u) = true := rfl
          have e2 : bOf (46 :: u) = u.takeWhile isDigit := rfl
          have e3 : vOf (46 :: u) = u.drop (u.takeWhile isDigit).length := by
            show List.drop (1 + (u.takeWhile isDigit).length) ((46 : UInt8) :: u) = _
            rw [Nat.add_comm, List.drop_succ_cons]
          rw [e1, e2, e3, if_pos rfl]
          have rb := tw_split u
          have ab := tw_all u
          have hb := tw_drop_head u
          generalize u.takeWhile isDigit = b at *
          generalize u.drop b.length = v at *
          subst rb
          by_cases b0 : b = []
          · subst b0
            rw [numV_none1 (.inr (.inl ⟨rfl, rfl⟩)), List.nil_append]
            split
            · cases v with
              | nil => rfl
              | cons c v =>
                rw [go_cons]
                unfold stp
                dsimp only
                rw [if_neg (by rw [hb c v rfl]; decide), go_none]; rfl
            · rw [go_none]; rfl
          · obtain ⟨d2, b2, eb⟩ := List.exists_cons_of_ne_nil b0
            have g2 : go (if A.length < 40 then some (.pt A.length) else none) (b ++ v) = go (if A.length + b.length ≤ 40 then some (.fr (A.length + b.length)) else none) v := by
              by_cases q : A.length < 40
              · rw [if_pos q, go_append]
                congr 1
                rw [eb]
                rw [eb, List.all_cons, Bool.and_eq_true] at ab
                rw [go_cons]
                unfold stp
                dsimp only
                rw [if_pos ab.1, go_fr b2 _ ab.2 (by omega), List.length_cons]
                have : A.length + 1 + b2.length = A.length + (b2.length + 1) := by omega
                rw [this]
              · rw [if_neg q, go_none, if_neg (by rw [eb, List.length_cons]; omega), go_none]
            rw [g2]
            by_cases m2 : A.length + b.length ≤ 40
            · rw [if_pos m2, numV_some A0 (fun _ => b0) m2]
              cases v with
              | nil => rfl
              | cons c v =>
                have cv : ¬ isDigit c = true := by rw [hb c v rfl]; decide
                rw [go_cons]
                unfold stp
                dsimp only
                rw [if_neg cv]
                by_cases ce : c = 101
                · rw [if_pos ce, if_pos ce, acc_e]
                · rw [if_neg ce, if_neg ce, go_none, decide_eq_false (by intro h; exact absurd h.2.1 (by decide))]
                  rfl
            · rw [if_neg m2, go_none, numV_none1 (.inr (.inr (by omega)))]
              rfl
        · have e1 : ptOf (c :: u) = false := by rw [ptOf_cons, decide_eq_false c46]
          have e2 : bOf (c :: u) = [] := by unfold bOf; rw [e1]; rfl
          have e3 : vOf (c :: u) = c :: u := by unfold vOf; rw [e1]; rfl
          rw [if_neg c46, e1, e2, e3, numV_some A0 (by intro h; cases h) (by simpa using m1)]
          dsimp only
          by_cases ce : c = 101
          · rw [if_pos ce, if_pos ce, acc_e]
          · rw [if_neg ce, if_neg ce]
            by_cases c47 : c = 47
            · rw [if_pos c47]
              by_cases q : A.length < 40
              · rw [if_pos q, acc_sl u _ l1 q]
                by_cases ud : u.all isDigit = true
                · rw [ud, Bool.true_and]
                  have nn := numberOf_nz u ud
                  by_cases q2 : A.length + u.length ≤ 40 ∧ nz u = true
                  · have u0 : u ≠ [] := by
                      intro h; rw [h] at q2; exact absurd q2.2 (by decide)
                    rw [decide_eq_true ⟨c47, rfl, u0, rfl, q2.1, by rw [nn]; exact q2.2⟩, q2.2, decide_eq_true q2.1]
                    rfl
                  · rw [decide_eq_false (by intro h; exact q2 ⟨h.2.2.2.2.1, by rw [← nn]; exact h.2.2.2.2.2⟩)]
                    symm
                    rw [Bool.and_eq_false_iff, decide_eq_false_iff_not]
                    by_cases q3 : A.length + u.length ≤ 40
                    · right
                      have := fun h => q2 ⟨q3, h⟩
                      simpa using this
                    · exact .inl q3
                · have : u.all isDigit = false := by simpa using ud
                  rw [decide_eq_false (by intro h; exact ud h.2.2.2.1), this]; rfl
              · rw [if_neg q, go_none]
                rw [decide_eq_false (by
                  intro h
                  have h1 := h.2.2.2.2.1
                  have h2 : 0 < u.length := List.length_pos_iff.mpr h.2.2.1
                  omega)]
                rfl
            · rw [if_neg c47, go_none, decide_eq_false (by intro h; exact c47 h.1)]
              rfl
    · rw [if_neg m1, go_none, numV_none1 (.inr (.inr (by omega)))]
      rfl
theorem begins_go (t : List UInt8) : Sh.begins t = (go (some .s0) t).isSome := by
  unfold Sh.begins
  rw [numeral_acc, numeral_acc, go_append]
  cases q : go (some .s0) t with
  | none => rfl
  | some s => exact live_acc (go_lv (s := .s0) trivial q)
noncomputable def lived : St → List UInt8 → Nat
  | _, [] => 0
  | s, c :: r => match stp s c with
    | none => 0
    | some s' => lived s' r + 1
theorem lived_le : ∀ (t : List UInt8) (s : St), lived s t ≤ t.length
  | [], s => by unfold lived; simp
  | c :: t, s => by
    unfold lived
    split
    · simp
    · rename_i s' _
      have := lived_le t s'
      rw [List.length_cons]; omega
theorem lived_live : ∀ (t : List UInt8) (s : St) (k : Nat), k < lived s t → (go (some s) (t.take (k + 1))).isSome = true
  | [], s, k, h => by unfold lived at h; simp at h
  | c :: t, s, k, h => by
    unfold lived at h
    split at h
    · exact absurd h (by omega)
    · rename_i s' e
      rw [List.take_succ_cons, go_cons, e]
      cases k with
      | zero => rfl
      | succ k => exact lived_live t s' k (by omega)
theorem lived_dead : ∀ (t : List UInt8) (s : St), lived s t < t.length → (go (some s) (t.take (lived s t + 1))).isSome = false
  | [], s, h => by simp at h
  | c :: t, s, h => by
    unfold lived at h ⊢
    rw [List.take_succ_cons, go_cons]
    split
    · rename_i e; rw [e, go_none]; rfl
    · rename_i s' e
      rw [e] at h ⊢
      dsimp only at h
      exact lived_dead t s' (by rw [List.length_cons] at h; omega)
theorem fault_lived (t : List UInt8) : Sh.faultOf t = lived .s0 t := by
  unfold Sh.faultOf
  simp only [begins_go]
  by_cases h : lived .s0 t < t.length
  · have : (List.range t.length).find? (fun k => !(go (some .s0) (t.take (k + 1))).isSome) = some (lived .s0 t) := by
      rw [List.find?_range_eq_some]
      refine ⟨by rw [lived_dead t _ h]; rfl, List.mem_range.mpr h, fun j hj => ?_⟩
      rw [lived_live t _ j hj]; rfl
    rw [this]; rfl
  · have e : lived .s0 t = t.length := by have := lived_le t .s0; omega
    have : (List.range t.length).find? (fun k => !(go (some .s0) (t.take (k + 1))).isSome) = none := by
      rw [List.find?_eq_none]
      intro k hk
      rw [lived_live t _ k (by rw [e]; exact List.mem_range.mp hk)]; decide
    rw [this, e]; rfl
end My
namespace My
open Sh (digitsOf)
end My
namespace My
open Sh (Fmt How)
theorem size_q {a b : Int} (hb : 0 < b) : Sh.size ((a : Rat) / b) = ((a.natAbs : Int) : Rat) / b := by
  unfold Sh.size
  split
  · rename_i h
    rw [qlt0 hb] at h
    rw [qneg]
    congr 2
    omega
  · rename_i h
    rw [qlt0 hb] at h
    congr 2
    omega
theorem two_le_q {a b : Int} (hb : 0 < b) (l : Int) : Sh.two l ≤ (a : Rat) / b ↔ b * 2 ^ l.toNat ≤ a * 2 ^ (-l).toNat := by
  rw [two_q, qle (pow2_pos _) hb, Int.mul_comm b]
theorem q_lt_two {a b : Int} (hb : 0 < b) (l : Int) : (a : Rat) / b < Sh.two l ↔ a * 2 ^ (-l).toNat < b * 2 ^ l.toNat := by
  rw [two_q, qlt hb (pow2_pos _), Int.mul_comm b]
theorem log2_q {a b l : Int} (hb : 0 < b) (h1 : b * 2 ^ l.toNat ≤ (a.natAbs : Int) * 2 ^ (-l).toNat) (h2 : (a.natAbs : Int) * 2 ^ (-(l + 1)).toNat < b * 2 ^ (l + 1).toNat) :
    Sh.log2 (Sh.size ((a : Rat) / b)) = l := by
  rw [size_q hb]
  exact log2_unique ((two_le_q hb l).mpr h1) ((q_lt_two hb (l + 1)).mpr h2)
theorem q_two {a b : Int} (hb : 0 < b) (k : Int) : (a : Rat) / b / Sh.two k = ((a * 2 ^ (-k).toNat : Int) : Rat) / ((b * 2 ^ k.toNat : Int) : Rat) := by
  rw [two_q, qdiv hb (pow2_pos _) (Int.ne_of_gt (pow2_pos _))]
theorem exact_two {a b n : Int} (hb : 0 < b) (k : Int) : (n : Rat) * Sh.two k = (a : Rat) / b ↔ n * (b * 2 ^ k.toNat) = a * 2 ^ (-k).toNat := by
  have h := two_pos k
  have e : (n : Rat) * Sh.two k = (a : Rat) / b ↔ (n : Rat) = (a : Rat) / b / Sh.two k := by
    rw [eq_div h]
  rw [e, q_two hb, qone n, qeq (by decide) (Int.mul_pos hb (pow2_pos _)), Int.mul_one]
theorem putF_int {m M B mode : Nat} {a b : Int} (hM : 1 ≤ M) (hb : 0 < b) (ha : a ≠ 0) {l e : Int}
    (h1 : b * 2 ^ l.toNat ≤ (a.natAbs : Int) * 2 ^ (-l).toNat) (h2 : (a.natAbs : Int) * 2 ^ (-(l + 1)).toNat < b * 2 ^ (l + 1).toNat)
    (he : e = max l (1 - (M : Int))) {n : Int} (hn : n = wholeI mode (a * 2 ^ (-(e - m)).toNat) (b * 2 ^ (e - m).toNat)) :
    putF m M B mode ((a : Rat) / b) = if n.natAbs + (e + M - 1).toNat * 2 ^ m ≤ greatest m M then (rawOf m M B (decide (n < 0)) n.natAbs e, if (a * 2 ^ (-(e - m)).toNat) % (b * 2 ^ (e - m).toNat) = 0 then 0 else 1) else ((if n < 0 then 2 ^ (B - 1) else 0) + greatest m M, 5) := by
  have hD : 0 < b * 2 ^ (e - m).toNat := Int.mul_pos hb (pow2_pos _)
  have q0 : (a : Rat) / b ≠ 0 := fun h => ha ((qeq0 hb).mp h)
  have he2 : e = max (Sh.log2 (Sh.size ((a : Rat) / b))) (1 - (M : Int)) := by rw [log2_q hb h1 h2]; exact he
  have hn2 : n = Sh.whole mode ((a : Rat) / b / Sh.two (e - m)) := by rw [q_two hb, whole_div _ hD]; exact hn
  rw [putF_eq hM q0 he2 hn2]
  have ex : ((n : Rat) * Sh.two (e - m) = (a : Rat) / b) = ((a * 2 ^ (-(e - m)).toNat) % (b * 2 ^ (e - m).toNat) = 0) := by
    rw [exact_two hb, hn, whole_exact _ hD]
  simp only [ex]
theorem log2_q_exists {a b : Int} (hb : 0 < b) (ha : 0 < a) : ∃ l : Int, b * 2 ^ l.toNat ≤ a * 2 ^ (-l).toNat ∧ a * 2 ^ (-(l + 1)).toNat < b * 2 ^ (l + 1).toNat ∧ l = Sh.log2 ((a : Rat) / b) := by
  obtain ⟨h1, h2⟩ := log2_spec ((q0lt hb).mpr ha)
  exact ⟨_, (two_le_q hb _).mp h1, (q_lt_two hb _).mp h2, rfl⟩
theorem log2_lens {a b : Int} (hb : 0 < b) (ha : 0 < a) : Sh.log2 ((a : Rat) / b) = (a.natAbs.log2 : Int) - (b.natAbs.log2 : Int) ∨ Sh.log2 ((a : Rat) / b) = (a.natAbs.log2 : Int) - (b.natAbs.log2 : Int) - 1 := by
  obtain ⟨a1, a2⟩ := log2_nat (n := a.natAbs) (by omega)
  obtain ⟨b1, b2⟩ := log2_nat (n := b.natAbs) (by omega)
  have ea : ((a.natAbs : Nat) : Int) = a := by omega
  have eb : ((b.natAbs : Nat) : Int) = b := by omega
  have A1 : Sh.two (a.natAbs.log2 : Int) ≤ (a : Rat) := by
    rw [two_nat, Rat.intCast_le_intCast]; have := Int.ofNat_le.mpr a1; rw [Int.natCast_pow, ea] at this; exact this
  have A2 : (a : Rat) < Sh.two ((a.natAbs.log2 : Int) + 1) := by
    have e : ((a.natAbs.log2 : Int) + 1) = ((a.natAbs.log2 + 1 : Nat) : Int) := by omega
    rw [e, two_nat, Rat.intCast_lt_intCast]; have := Int.ofNat_lt.mpr a2; rw [Int.natCast_pow, ea] at this; exact this
  have B1 : Sh.two (b.natAbs.log2 : Int) ≤ (b : Rat) := by
    rw [two_nat, Rat.intCast_le_intCast]; have := Int.ofNat_le.mpr b1; rw [Int.natCast_pow, eb] at this; exact this
  have B2 : (b : Rat) < Sh.two ((b.natAbs.log2 : Int) + 1) := by
    have e : ((b.natAbs.log2 : Int) + 1) = ((b.natAbs.log2 + 1 : Nat) : Int) := by omega
    rw [e, two_nat, Rat.intCast_lt_intCast]; have := Int.ofNat_lt.mpr b2; rw [Int.natCast_pow, eb] at this; exact this
  generalize (a.natAbs.log2 : Int) = x at *
  generalize (b.natAbs.log2 : Int) = y at *
  have D := ipos hb
  obtain ⟨s1, s2⟩ := log2_spec ((q0lt hb).mpr ha)
  have up : (a : Rat) / b < Sh.two (x - y + 1) := by
    rw [Rat.div_lt_iff D]
    have h1 : Sh.two (x - y + 1) * Sh.two y ≤ Sh.two (x - y + 1) * (b : Rat) := Rat.mul_le_mul_of_nonneg_left B1 (Rat.le_of_lt (two_pos _))
    have h2 : Sh.two (x - y + 1) * Sh.two y = Sh.two (x + 1) := by rw [← two_add]; congr 1; omega
    grind
  have lo : Sh.two (x - y - 1) ≤ (a : Rat) / b := by
    rw [le_div D]
    have h1 : Sh.two (x - y - 1) * (b : Rat) ≤ Sh.two (x - y - 1) * Sh.two (y + 1) := Rat.mul_le_mul_of_nonneg_left (Rat.le_of_lt B2) (Rat.le_of_lt (two_pos _))
    have h2 : Sh.two (x - y - 1) * Sh.two (y + 1) = Sh.two x := by rw [← two_add]; congr 1; omega
    grind
  have c1 : Sh.two (Sh.log2 ((a : Rat) / b)) < Sh.two (x - y + 1) := by grind
  have c2 : Sh.two (x - y - 1) < Sh.two (Sh.log2 ((a : Rat) / b) + 1) := by grind
  rw [two_lt_iff] at c1 c2
  omega
end My
namespace My
open Sh (isDigit numeral numberOf exponentOf MOST)
inductive Out (α : Type) where
  | bad (q : Nat)
  | ok (a : α) (p r : Nat)
noncomputable def dgs (t : List UInt8) (p : Nat) : List UInt8 := (t.drop p).takeWhile isDigit
noncomputable def rDigits (t : List UInt8) (p r : Nat) : Out (List UInt8) := if (dgs t p).length = 0 then .bad p else if r < (dgs t p).length then .bad (p + r) else .ok (dgs t p) (p + (dgs t p).length) (r - (dgs t p).length)
noncomputable def zrs (t : List UInt8) (p : Nat) : Nat := ((t.drop p).takeWhile (· == 48)).length
noncomputable def rDivisor (t : List UInt8) (p r : Nat) : Out Nat := if r ≤ zrs t p then .bad (p + (r - 1)) else match rDigits t (p + zrs t p) (r - zrs t p) with
  | .bad q => .bad q
  | .ok d p' r' => .ok (numberOf d) p' r'
noncomputable def ePlace (t : List UInt8) (p : Nat) : Nat := if t[p + 1]? = some 45 then p + 2 else p + 1
noncomputable def rExp (t : List UInt8) (p r : Nat) : Out Int := if t[p]? = some 101 then
    (if ((dgs t (ePlace t p)).take 3).length = 0 then .bad (ePlace t p)
    else .ok (if t[p + 1]? = some 45 then -((numberOf ((dgs t (ePlace t p)).take 3) : Nat) : Int) else ((numberOf ((dgs t (ePlace t p)).take 3) : Nat) : Int)) (ePlace t p + ((dgs t (ePlace t p)).take 3).length) r)
  else .ok 0 p r
noncomputable def tenR (n e : Int) : Int × Int := if e < 0 then (n, 10 ^ (-e).toNat) else (n * 10 ^ e.toNat, 1)
noncomputable def rTail (t : List UInt8) (a b : List UInt8) (p r : Nat) : Out (Int × Int) := match rExp t p r with
  | .bad q => .bad q
  | .ok e p' r' => .ok (tenR ((numberOf (a ++ b) : Nat) : Int) (e - (b.length : Int))) p' r'
noncomputable def rSize (t : List UInt8) (p r : Nat) : Out (Int × Int) := match rDigits t p r with
  | .bad q => .bad q
  | .ok a p1 r1 =>
    if 0 < r1 ∧ t[p1]? = some 47 then (match rDivisor t (p1 + 1) r1 with
      | .bad q => .bad q
      | .ok n p2 r2 => .ok (((numberOf a : Nat) : Int), (n : Int)) p2 r2)
    else if 0 < r1 ∧ t[p1]? = some 46 then (match rDigits t (p1 + 1) r1 with
      | .bad q => .bad q
      | .ok b p2 r2 => rTail t a b p2 r2)
    else rTail t a [] p1 r1
noncomputable def rNumber (t : List UInt8) : Out (Int × Int) := match rSize t (if t[0]? = some 45 then 1 else 0) 40 with
  | .bad q => .bad q
  | .ok x p r => if p < t.length then .bad p else .ok (if t[0]? = some 45 then (-x.1, x.2) else x) p r
theorem dgs_all (t : List UInt8) (p : Nat) : (dgs t p).all isDigit = true := tw_all _
theorem dgs_len (t : List UInt8) (p : Nat) (h : p ≤ t.length) : p + (dgs t p).length ≤ t.length := by
  have := (List.takeWhile_prefix (p := isDigit) (l := t.drop p)).length_le
  rw [List.length_drop] at this
  unfold dgs
  omega
theorem zrs_len (t : List UInt8) (p : Nat) (h : p ≤ t.length) : p + zrs t p ≤ t.length := by
  have := (List.takeWhile_prefix (p := (· == (48 : UInt8))) (l := t.drop p)).length_le
  rw [List.length_drop] at this
  unfold zrs
  omega
theorem numberOf_lt : ∀ (d : List UInt8), d.all isDigit = true → numberOf d < 10 ^ d.length := by
  have key : ∀ (d : List UInt8) (n k : Nat), d.all isDigit = true → n < 10 ^ k → d.foldl (fun (n : Nat) (c : UInt8) => 10 * n + (c.toNat - 48)) n < 10 ^ (k + d.length) := by
    intro d
    induction d with
    | nil => intro n k _ h; simpa using h
    | cons c d ih =>
      intro n k h hn
      rw [List.all_cons, Bool.and_eq_true] at h
      rw [List.foldl_cons, List.length_cons, show k + (d.length + 1) = (k + 1) + d.length by omega]
      refine ih _ _ h.2 ?_
      have hd := h.1
      unfold isDigit at hd
      rw [Bool.and_eq_true, decide_eq_true_eq, decide_eq_true_eq] at hd
      have g2 : c.toNat ≤ 57 := hd.2
      rw [Nat.pow_succ]
      omega
  intro d h
  have := key d 0 0 h (by decide)
  rw [Nat.zero_add] at this
  exact this
theorem numberOf_snoc (d : List UInt8) (c : UInt8) : numberOf (d ++ [c]) = 10 * numberOf d + (c.toNat - 48) := by
  unfold numberOf
  rw [List.foldl_append]
  rfl
theorem dig_range {c : UInt8} (h : isDigit c = true) : 48 ≤ c.toNat ∧ c.toNat ≤ 57 := by
  unfold isDigit at h
  rw [Bool.and_eq_true, decide_eq_true_eq, decide_eq_true_eq] at h
  exact ⟨h.1, h.2⟩
theorem dig_of {c : UInt8} (h1 : 48 ≤ c.toNat) (h2 : c.toNat ≤ 57) : isDigit c = true := by
  unfold isDigit
  rw [Bool.and_eq_true, decide_eq_true_eq, decide_eq_true_eq]
  exact ⟨h1, h2⟩
theorem dgs_at {t : List UInt8} {p k : Nat} (hk : k ≤ (dgs t p).length) : (k < (dgs t p).length ↔ ∃ c, t[p + k]? = some c ∧ isDigit c = true) := by
  have key : ∀ (l : List UInt8) (k : Nat), k ≤ (l.takeWhile isDigit).length → (k < (l.takeWhile isDigit).length ↔ ∃ c, l[k]? = some c ∧ isDigit c = true) := by
    intro l
    induction l with
    | nil => intro k _; simp
    | cons c l ih =>
      intro k hk
      rw [List.takeWhile_cons] at hk ⊢
      by_cases g : isDigit c = true
      · rw [if_pos g] at hk ⊢
        cases k with
        | zero => simp [g]
        | succ k =>
          rw [List.length_cons] at hk ⊢
          rw [List.getElem?_cons_succ]
          rw [← ih k (by omega)]
          omega
      · rw [if_neg g] at hk ⊢
        have : k = 0 := by simpa using hk
        subst this
        simp [g]
  have := key (t.drop p) k hk
  rw [List.getElem?_drop] at this
  exact this
theorem zrs_at {t : List UInt8} {p : Nat} : (t[p]? = some 48 → zrs t p = zrs t (p + 1) + 1) ∧ (t[p]? ≠ some 48 → zrs t p = 0) := by
  unfold zrs
  constructor
  · intro h
    obtain ⟨hp, e⟩ := List.getElem?_eq_some_iff.mp h
    rw [List.drop_eq_getElem_cons hp, e, List.takeWhile_cons, if_pos (by decide), List.length_cons]
  · intro h
    by_cases hp : p < t.length
    · rw [List.drop_eq_getElem_cons hp, List.takeWhile_cons, if_neg]
      · rfl
      · intro z
        exact h (by rw [List.getElem?_eq_getElem hp, beq_iff_eq.mp z])
    · rw [List.drop_eq_nil_of_le (by omega)]; rfl
theorem rDigits_ok {t d : List UInt8} {p r p' r' : Nat} (h : rDigits t p r = .ok d p' r') : d = dgs t p ∧ p' = p + d.length ∧ r' = r - d.length ∧ d.length ≤ r ∧ 1 ≤ d.length := by
  unfold rDigits at h
  split at h
  · cases h
  · split at h
    · cases h
    · cases h
      exact ⟨rfl, rfl, rfl, by omega, by omega⟩
theorem at_lt {t : List UInt8} {p : Nat} {c : UInt8} (h : t[p]? = some c) : p + 1 ≤ t.length := (List.getElem?_eq_some_iff.mp h).1
theorem ePlace_le {t : List UInt8} {p : Nat} (h : t[p]? = some 101) : ePlace t p ≤ t.length := by
  unfold ePlace
  split
  · rename_i g; exact at_lt g
  · exact at_lt h
theorem rExp_bd {t : List UInt8} {p r p' r' : Nat} {n : Int} (h : rExp t p r = .ok n p' r') : -999 ≤ n ∧ n ≤ 999 := by
  unfold rExp at h
  split at h
  · split at h
    · cases h
    · have lt := numberOf_lt ((dgs t (ePlace t p)).take 3) (List.all_eq_true.mpr fun x hx => List.all_eq_true.mp (dgs_all t _) x (List.mem_of_mem_take hx))
      have lt2 : numberOf ((dgs t (ePlace t p)).take 3) < 10 ^ 3 := Nat.lt_of_lt_of_le lt (Nat.pow_le_pow_right (by decide) (by rw [List.length_take]; omega))
      cases h
      split <;> omega
  · cases h
    omega
end My
namespace My
open Sh (isDigit numeral numberOf exponentOf MOST)
theorem drop_some {t : List UInt8} {p : Nat} {c : UInt8} (h : t[p]? = some c) : t.drop p = c :: t.drop (p + 1) := by
  obtain ⟨hp, e⟩ := List.getElem?_eq_some_iff.mp h
  rw [List.drop_eq_getElem_cons hp, e]
theorem drop_none {t : List UInt8} {p : Nat} (h : t[p]? = none) : t.drop p = [] := List.drop_eq_nil_of_le (List.getElem?_eq_none_iff.mp h)
theorem lived_app {s' : St} {b : List UInt8} : ∀ {a : List UInt8} {s : St}, go (some s) a = some s' → lived s (a ++ b) = a.length + lived s' b
  | [], s, h => by cases h; simp
  | c :: a, s, h => by
    rw [go_cons] at h
    cases q : stp s c with
    | none => rw [q, go_none] at h; cases h
    | some s2 =>
      rw [q] at h
      rw [List.cons_append]
      show (match stp s c with | none => 0 | some s2 => lived s2 (a ++ b) + 1) = _
      rw [q]
      dsimp only
      rw [lived_app h, List.length_cons]
      exact Nat.add_right_comm _ _ _
noncomputable def Bad (s : St) (t : List UInt8) (p q : Nat) : Prop := q = p + lived s (t.drop p) ∧ acc (go (some s) (t.drop p)) = false
theorem Bad.step {s s' : St} {t : List UInt8} {p k q : Nat} (h : go (some s) ((t.drop p).take k) = some s') (hk : p + k ≤ t.length) (b : Bad s' t (p + k) q) : Bad s t p q := by
  have e : t.drop p = (t.drop p).take k ++ t.drop (p + k) := by
    rw [← List.drop_drop]; exact (List.take_append_drop k (t.drop p)).symm
  obtain ⟨h1, h2⟩ := b
  refine ⟨?_, ?_⟩
  · rw [h1, e, lived_app h, List.length_take, List.length_drop]
    omega
  · rw [e, go_append, h]; exact h2
theorem Bad.dead {s : St} {t : List UInt8} {p : Nat} {c : UInt8} (h : t[p]? = some c) (e : stp s c = none) : Bad s t p p := by
  refine ⟨?_, ?_⟩
  · rw [drop_some h]; unfold lived; rw [e]; rfl
  · rw [drop_some h, go_cons, e, go_none]; rfl
theorem Bad.fin {s : St} {t : List UInt8} {p : Nat} (h : t[p]? = none) (e : acc (some s) = false) : Bad s t p p := by
  refine ⟨?_, ?_⟩
  · rw [drop_none h]; unfold lived; rfl
  · rw [drop_none h, go_nil]; exact e
theorem Bad.here {s : St} {t : List UInt8} {p : Nat} (hd : ∀ c, t[p]? = some c → stp s c = none) (ha : t[p]? = none → acc (some s) = false) : Bad s t p p := by
  cases q : t[p]? with
  | none => exact .fin q (ha q)
  | some c => exact .dead q (hd c q)
theorem go_one {s : St} {t : List UInt8} {p : Nat} {c : UInt8} (h : t[p]? = some c) : go (some s) ((t.drop p).take 1) = stp s c := by
  rw [drop_some h, List.take_succ_cons, List.take_zero, go_cons, go_nil]
structure DR (s : St) (F : Nat → St) (r : Nat) (ok : UInt8 → Prop) : Prop where
  non : ∀ c, isDigit c = false → stp s c = none
  nacc : acc (some s) = false
  run : ∀ (c : UInt8) (d : List UInt8), isDigit c = true → ok c → d.all isDigit = true → go (some s) (c :: d) = if d.length + 1 ≤ r then some (F (d.length + 1)) else none
theorem dgs_take {t : List UInt8} {p k : Nat} (h : k ≤ (dgs t p).length) : (t.drop p).take k = (dgs t p).take k := by
  have e := tw_split (t.drop p)
  have : (t.drop p).take k = ((t.drop p).takeWhile isDigit ++ (t.drop p).drop ((t.drop p).takeWhile isDigit).length).take k := by rw [← e]
  rw [this]
  exact List.take_append_of_le_length h
theorem dgs_cons {t : List UInt8} {p : Nat} (h : (dgs t p).length ≠ 0) : ∃ c d, dgs t p = c :: d ∧ t[p]? = some c ∧ isDigit c = true ∧ d.all isDigit = true := by
  have z := (dgs_at (t := t) (p := p) (k := 0) (Nat.zero_le _)).mp (by omega)
  obtain ⟨c, hc, dc⟩ := z
  rw [Nat.add_zero] at hc
  have e : dgs t p = c :: (t.drop (p + 1)).takeWhile isDigit := by
    unfold dgs
    rw [drop_some hc, List.takeWhile_cons, if_pos dc]
  exact ⟨c, _, e, hc, dc, tw_all _⟩
section
variable {s : St} {F : Nat → St} {r p q : Nat} {ok : UInt8 → Prop} {t : List UInt8}
theorem run_at (D : DR s F r ok) (hok : ∀ c, t[p]? = some c → isDigit c = true → ok c) {k : Nat} (h1 : 1 ≤ k) (h2 : k ≤ (dgs t p).length) : go (some s) ((t.drop p).take k) = if k ≤ r then some (F k) else none := by
  obtain ⟨c, d, e, hc, dc, dd⟩ := dgs_cons (t := t) (p := p) (by omega)
  obtain ⟨k, rfl⟩ : ∃ j, k = j + 1 := ⟨k - 1, by omega⟩
  rw [dgs_take h2, e, List.take_succ_cons, D.run c _ dc (hok c hc dc) (List.all_eq_true.mpr fun x hx => List.all_eq_true.mp dd x (List.mem_of_mem_take hx))]
  rw [e, List.length_cons] at h2
  rw [List.length_take, Nat.min_eq_left (by omega)]
theorem digits_bad (D : DR s F r ok) (hok : ∀ c, t[p]? = some c → isDigit c = true → ok c) (hp : p ≤ t.length) (h : rDigits t p r = .bad q) : Bad s t p q := by
  unfold rDigits at h
  split at h
  · rename_i z
    cases h
    refine .here (fun c hc => D.non c ?_) fun _ => D.nacc
    cases g : isDigit c with
    | false => rfl
    | true =>
      have := (dgs_at (t := t) (p := p) (k := 0) (Nat.zero_le _)).mpr ⟨c, hc, g⟩
      omega
  · rename_i z
    split at h
    · rename_i g
      cases h
      have hl := dgs_len t p hp
      obtain ⟨c, hc, dc⟩ := (dgs_at (t := t) (p := p) (k := r) (by omega)).mp g
      have dead := run_at D hok (k := r + 1) (by omega) (by omega)
      rw [if_neg (by omega)] at dead
      by_cases r0 : r = 0
      · subst r0
        rw [Nat.add_zero] at hc ⊢
        rw [Nat.zero_add, go_one hc] at dead
        exact .dead hc dead
      · have live := run_at D hok (k := r) (by omega) (by omega)
        rw [if_pos (Nat.le_refl _)] at live
        refine .step live (by omega) (.dead hc ?_)
        have e : (t.drop p).take (r + 1) = (t.drop p).take r ++ [c] := by
          rw [List.take_add_one, List.getElem?_drop, hc]; rfl
        rw [e, go_append, live, go_cons, go_nil] at dead
        exact dead
    · cases h
theorem digits_ok {d : List UInt8} {p' r' : Nat} (D : DR s F r ok) (hok : ∀ c, t[p]? = some c → isDigit c = true → ok c) (h : rDigits t p r = .ok d p' r') : go (some s) ((t.drop p).take d.length) = some (F d.length) := by
  obtain ⟨ed, _, _, dl, d1⟩ := rDigits_ok h
  rw [run_at D hok d1 (by rw [ed]; exact Nat.le_refl _), if_pos dl]
end
theorem dgs_end {t d : List UInt8} {p : Nat} (e : d = dgs t p) {c : UInt8} (h : t[p + d.length]? = some c) : isDigit c = false := by
  cases g : isDigit c with
  | false => rfl
  | true =>
    subst e
    have := (dgs_at (t := t) (p := p) (k := (dgs t p).length) (Nat.le_refl _)).mpr ⟨c, h, g⟩
    omega
theorem dr_s1 : DR .s1 (fun k => .int k) 40 fun _ => True where
  non := fun c h => by unfold stp; dsimp only; rw [if_neg (by rw [h]; decide)]
  nacc := rfl
  run := fun c d h _ hd => by
    rw [go_cons]
    unfold stp
    dsimp only
    rw [if_pos h, go_int d 1 hd (by decide), Nat.add_comm 1]
theorem dr_pt {n : Nat} (hn : n < 40) : DR (.pt n) (fun k => .fr (n + k)) (40 - n) fun _ => True where
  non := fun c h => by unfold stp; dsimp only; rw [if_neg (by rw [h]; decide)]
  nacc := rfl
  run := fun c d h _ hd => by
    rw [go_cons]
    unfold stp
    dsimp only
    rw [if_pos h, go_fr d (n + 1) hd (by omega), show n + 1 + d.length = n + (d.length + 1) by omega]
    by_cases g : d.length + 1 ≤ 40 - n
    · rw [if_pos g, if_pos (by omega)]
    · rw [if_neg g, if_neg (by omega)]
theorem go_dnt : ∀ (a : List UInt8) (n : Nat), a.all isDigit = true → n ≤ 40 → go (some (.dn n true)) a = if n + a.length ≤ 40 then some (.dn (n + a.length) true) else none
  | [], n, _, h => by rw [go_nil, List.length_nil, Nat.add_zero, if_pos h]
  | c :: a, n, h, hn => by
    rw [List.all_cons, Bool.and_eq_true] at h
    rw [go_cons]
    unfold stp
    dsimp only
    rw [if_pos h.1]
    by_cases g : n < 40
    · rw [if_pos g, if_pos (.inl rfl), go_dnt a (n + 1) h.2 (by omega), List.length_cons]
      have : n + 1 + a.length = n + (a.length + 1) := by omega
      rw [this]
    · rw [if_neg g, go_none, if_neg (by rw [List.length_cons]; omega)]
theorem dr_sl {n : Nat} (hn : n < 40) : DR (.sl n) (fun k => .dn (n + k) true) (40 - n) fun c => c ≠ 48 where
  non := fun c h => by unfold stp; dsimp only; rw [if_neg (by rw [h]; decide)]
  nacc := rfl
  run := fun c d h hc hd => by
    rw [go_cons]
    unfold stp
    dsimp only
    rw [if_pos h, if_neg hc, go_dnt d (n + 1) hd (by omega), show n + 1 + d.length = n + (d.length + 1) by omega]
    by_cases g : d.length + 1 ≤ 40 - n
    · rw [if_pos g, if_pos (by omega)]
    · rw [if_neg g, if_neg (by omega)]
theorem dr_dn {n : Nat} (hn : n < 40) : DR (.dn n false) (fun k => .dn (n + k) true) (40 - n) fun c => c ≠ 48 where
  non := fun c h => by unfold stp; dsimp only; rw [if_neg (by rw [h]; decide)]
  nacc := rfl
  run := fun c d h hc hd => by
    rw [go_cons]
    unfold stp
    dsimp only
    rw [if_pos h, if_pos hn, if_pos (.inr hc), go_dnt d (n + 1) hd (by omega), show n + 1 + d.length = n + (d.length + 1) by omega]
    by_cases g : d.length + 1 ≤ 40 - n
    · rw [if_pos g, if_pos (by omega)]
    · rw [if_neg g, if_neg (by omega)]
noncomputable def zst (n z : Nat) : St := if z = 0 then .sl n else .dn (n + z) false
theorem zst_stp {n z : Nat} (h : n + z < 40) : stp (zst n z) 48 = if n + z + 1 < 40 then some (zst n (z + 1)) else none := by
  have d : isDigit 48 = true := by decide
  by_cases z0 : z = 0
  · subst z0
    have e1 : zst n 0 = .sl n := rfl
    have e2 : zst n (0 + 1) = .dn (n + 1) false := rfl
    rw [e1, e2]
    unfold stp
    dsimp only
    rw [if_pos d, if_pos rfl]
  · have e1 : zst n z = .dn (n + z) false := if_neg z0
    have e2 : zst n (z + 1) = .dn (n + z + 1) false := if_neg (by omega)
    rw [e1, e2]
    unfold stp
    dsimp only
    rw [if_pos d, if_pos h, if_neg (by decide)]
theorem zst_dr {n z : Nat} (h : n + z < 40) : DR (zst n z) (fun k => .dn (n + z + k) true) (40 - (n + z)) fun c => c ≠ 48 := by
  unfold zst
  by_cases z0 : z = 0
  · subst z0
    rw [if_pos rfl]
    exact dr_sl h
  · rw [if_neg z0]
    exact dr_dn h
theorem zrs_get : ∀ {t : List UInt8} {p : Nat} (k : Nat), k < zrs t p → t[p + k]? = some 48
  | t, p, 0, h => by
    by_cases c : t[p]? = some 48
    · exact c
    · have := (zrs_at (t := t) (p := p)).2 c; omega
  | t, p, k + 1, h => by
    by_cases c : t[p]? = some 48
    · have z := (zrs_at (t := t) (p := p)).1 c
      have := zrs_get (t := t) (p := p + 1) k (by omega)
      rw [show p + (k + 1) = p + 1 + k by omega]
      exact this
    · have := (zrs_at (t := t) (p := p)).2 c; omega
theorem zrs_run {t : List UInt8} {p n : Nat} : ∀ (k : Nat), k ≤ zrs t p → n + k < 40 → go (some (.sl n)) ((t.drop p).take k) = some (zst n k)
  | 0, _, _ => by rw [List.take_zero, go_nil]; rfl
  | k + 1, hk, hn => by
    have ih := zrs_run (t := t) (p := p) (n := n) k (by omega) (by omega)
    have c : t[p + k]? = some 48 := zrs_get k (by omega)
    have e : (t.drop p).take (k + 1) = (t.drop p).take k ++ [48] := by
      rw [List.take_add_one, List.getElem?_drop, c]; rfl
    rw [e, go_append, ih, go_cons, go_nil, zst_stp (by omega), if_pos (by omega)]
theorem zrs_next {t : List UInt8} {p : Nat} : t[p + zrs t p]? ≠ some 48 := by
  have key : ∀ (l : List UInt8), l[(l.takeWhile (· == 48)).length]? ≠ some 48 := by
    intro l
    induction l with
    | nil => simp
    | cons c l ih =>
      rw [List.takeWhile_cons]
      by_cases g : (c == 48) = true
      · rw [if_pos g, List.length_cons, List.getElem?_cons_succ]; exact ih
      · rw [if_neg g, List.length_nil, List.getElem?_cons_zero]
        intro z
        exact g (by rw [Option.some.inj z]; decide)
  have := key (t.drop p)
  rw [List.getElem?_drop] at this
  exact this
theorem divisor_bad {t : List UInt8} {p n q : Nat} (hn : n < 40) (hp : p ≤ t.length) (h : rDivisor t p (40 - n) = .bad q) : Bad (.sl n) t p q := by
  have zl := zrs_len t p hp
  unfold rDivisor at h
  split at h
  · rename_i g
    cases h
    have c := zrs_get (t := t) (p := p) (40 - n - 1) (by omega)
    refine .step (zrs_run (t := t) (p := p) (n := n) (40 - n - 1) (by omega) (by omega)) (by omega) (.dead c ?_)
    rw [zst_stp (by omega), if_neg (by omega)]
  · rename_i g
    refine .step (zrs_run (t := t) (p := p) (n := n) (zrs t p) (Nat.le_refl _) (by omega)) zl ?_
    cases e : rDigits t (p + zrs t p) (40 - n - zrs t p) with
    | bad q' =>
      rw [e] at h
      cases h
      rw [show 40 - n - zrs t p = 40 - (n + zrs t p) by omega] at e
      exact digits_bad (zst_dr (by omega)) (fun c hc _ z => zrs_next (by rw [hc, z])) zl e
    | ok d p' r' => rw [e] at h; cases h
theorem divisor_ok {t : List UInt8} {p n m p' r' : Nat} (hn : n < 40) (hp : p ≤ t.length) (h : rDivisor t p (40 - n) = .ok m p' r') :
    ∃ N, go (some (.sl n)) ((t.drop p).take (p' - p)) = some (.dn N true) ∧ p ≤ p' ∧ p' ≤ t.length ∧ n + (p' - p) ≤ 40 ∧ (∀ c, t[p']? = some c → isDigit c = false) ∧ ((t.drop p).take (p' - p)).all isDigit = true ∧ numberOf ((t.drop p).take (p' - p)) = m ∧ m ≠ 0 := by
  have zl := zrs_len t p hp
  unfold rDivisor at h
  split at h
  · cases h
  · rename_i g
    cases e : rDigits t (p + zrs t p) (40 - n - zrs t p) with
    | bad q' => rw [e] at h; cases h
    | ok d p2 r2 =>
      rw [e] at h
      cases h
      obtain ⟨ed, ep, er, dl, d1⟩ := rDigits_ok e
      have hl := dgs_len t (p + zrs t p) zl
      rw [← ed] at hl
      have e' := e
      rw [show 40 - n - zrs t p = 40 - (n + zrs t p) by omega] at e'
      have run := digits_ok (zst_dr (by omega)) (fun c hc _ z => zrs_next (by rw [hc, z])) e'
      have zr := zrs_run (t := t) (p := p) (n := n) (zrs t p) (Nat.le_refl _) (by omega)
      have sp : (t.drop p).take (p' - p) = (t.drop p).take (zrs t p) ++ d := by
        have dd : d = (t.drop (p + zrs t p)).take d.length := by
          rw [dgs_take (by rw [ed]; exact Nat.le_refl _), ← ed, List.take_length]
        rw [ep, show p + zrs t p + d.length - p = zrs t p + d.length by omega, List.take_add, List.drop_drop, ← dd]
      have zz : ((t.drop p).take (zrs t p)) = List.replicate (zrs t p) 48 := by
        unfold zrs
        generalize t.drop p = l
        induction l with
        | nil => rfl
        | cons c l ih =>
          rw [List.takeWhile_cons]
          by_cases g : (c == 48) = true
          · rw [if_pos g, List.length_cons, List.take_succ_cons, ih, List.replicate_succ, beq_iff_eq.mp g]
          · rw [if_neg g]; rfl
      have nz0 : ∀ z, numberOf (List.replicate z 48 ++ d) = numberOf d := by
        intro z
        induction z with
        | zero => rfl
        | succ z ih => rw [List.replicate_succ, List.cons_append, ← ih]; rfl
      obtain ⟨c, d', ecd, hc, dc, dd'⟩ := dgs_cons (t := t) (p := p + zrs t p) (by rw [← ed]; omega)
      have da : d.all isDigit = true := by rw [ed]; exact dgs_all _ _
      refine ⟨n + zrs t p + d.length, ?_, by omega, by omega, by omega, fun c hc => ?_, ?_, ?_, ?_⟩
      · rw [sp, go_append, zr]
        have dd : (t.drop (p + zrs t p)).take d.length = d := by
          rw [dgs_take (by rw [ed]; exact Nat.le_refl _), ← ed, List.take_length]
        rw [dd] at run
        exact run
      · refine dgs_end ed (c := c) ?_
        rw [← ep]; exact hc
      · rw [sp, zz, List.all_append, da, Bool.and_true, List.all_eq_true]
        intro x hx
        rw [(List.mem_replicate.mp hx).2]
        decide
      · rw [sp, zz, nz0]
      · have nn := numberOf_nz d da
        rw [nn]
        unfold nz
        rw [ed, ecd, List.any_cons, bne_iff_ne.mpr (fun z => zrs_next (t := t) (p := p) (by rw [hc, z]))]
        rfl
end My
namespace My
open Sh (isDigit numeral numberOf exponentOf MOST)
theorem stp_e1 {c : UInt8} (h : isDigit c = false) : stp .e1 c = none := by
  unfold stp; dsimp only; rw [if_neg (by rw [h]; decide)]
theorem e_bad {t : List UInt8} {p : Nat} (hp : p + 1 ≤ t.length) (h : (dgs t (ePlace t p)).length = 0) : Bad .e0 t (p + 1) (ePlace t p) := by
  have nd : ∀ c, t[ePlace t p]? = some c → isDigit c = false := fun c hc => by
    cases g : isDigit c with
    | false => rfl
    | true =>
      have := (dgs_at (t := t) (p := ePlace t p) (k := 0) (Nat.zero_le _)).mpr ⟨c, hc, g⟩
      omega
  by_cases m : t[p + 1]? = some 45
  · have e : ePlace t p = p + 1 + 1 := if_pos m
    rw [e] at nd ⊢
    refine .step (s' := .e1) (k := 1) ?_ (at_lt m) (.here (fun c hc => stp_e1 (nd c hc)) fun _ => rfl)
    rw [go_one m]
    rfl
  · have e : ePlace t p = p + 1 := if_neg m
    rw [e] at nd ⊢
    refine .here (fun c hc => ?_) fun _ => rfl
    unfold stp
    dsimp only
    rw [if_neg (fun z => m (by rw [hc, z])), if_neg (by rw [nd c hc]; decide)]
theorem ed_run {t : List UInt8} {p k : Nat} {s : St} (hs : ∀ c, t[p]? = some c → isDigit c = true → stp s c = some (.ed 1)) (h1 : 1 ≤ k) (h2 : k ≤ (dgs t p).length) (h3 : k ≤ 3) : go (some s) ((t.drop p).take k) = some (.ed k) := by
  obtain ⟨c, d, e, hc, dc, dd⟩ := dgs_cons (t := t) (p := p) (by omega)
  obtain ⟨k, rfl⟩ : ∃ j, k = j + 1 := ⟨k - 1, by omega⟩
  rw [dgs_take h2, e, List.take_succ_cons, go_cons, hs c hc dc]
  rw [e, List.length_cons] at h2
  have ta : (d.take k).all isDigit = true := List.all_eq_true.mpr fun x hx => List.all_eq_true.mp dd x (List.mem_of_mem_take hx)
  have tl : (d.take k).length = k := by rw [List.length_take]; omega
  rw [go_ed _ 1 (by decide), if_pos ⟨ta, by omega⟩, tl, Nat.add_comm]
theorem e_ok {t : List UInt8} {p : Nat} (hp : p + 1 ≤ t.length) (h : (dgs t (ePlace t p)).length ≠ 0) :
    go (some .e0) ((t.drop (p + 1)).take (ePlace t p + ((dgs t (ePlace t p)).take 3).length - (p + 1))) = some (.ed ((dgs t (ePlace t p)).take 3).length) := by
  have k1 : 1 ≤ ((dgs t (ePlace t p)).take 3).length := by rw [List.length_take]; omega
  have k2 : ((dgs t (ePlace t p)).take 3).length ≤ (dgs t (ePlace t p)).length := by rw [List.length_take]; omega
  have k3 : ((dgs t (ePlace t p)).take 3).length ≤ 3 := by rw [List.length_take]; omega
  generalize ((dgs t (ePlace t p)).take 3).length = k at *
  by_cases m : t[p + 1]? = some 45
  · have e : ePlace t p = p + 1 + 1 := if_pos m
    rw [e] at k2 ⊢
    have r := ed_run (t := t) (p := p + 1 + 1) (k := k) (s := .e1) (fun c _ hd => by unfold stp; dsimp only; rw [if_pos hd]) k1 k2 k3
    rw [show p + 1 + 1 + k - (p + 1) = 1 + k by omega, List.take_add, go_append, go_one m, List.drop_drop]
    exact r
  · have e : ePlace t p = p + 1 := if_neg m
    rw [e] at k2 ⊢
    rw [show p + 1 + k - (p + 1) = k by omega]
    exact ed_run (s := .e0) (fun c hc hd => by unfold stp; dsimp only; rw [if_neg (fun z => m (by rw [hc, z])), if_pos hd]) k1 k2 k3
section
variable {t : List UInt8} {s : St} {p r : Nat}
theorem tail_bad {q : Nat} (he : stp s 101 = some .e0) (h : rExp t p r = .bad q) : Bad s t p q := by
  unfold rExp at h
  split at h
  · rename_i c
    split at h
    · rename_i z
      cases h
      have z' : (dgs t (ePlace t p)).length = 0 := by rw [List.length_take] at z; omega
      exact .step (k := 1) (by rw [go_one c]; exact he) (at_lt c) (e_bad (at_lt c) z')
    · cases h
  · cases h
theorem tail_more {n : Int} {p' r' : Nat} (he : stp s 101 = some .e0) (hd : ∀ c, t[p]? = some c → c ≠ 101 → stp s c = none) (hp : p ≤ t.length) (h : rExp t p r = .ok n p' r') (hm : p' < t.length) : Bad s t p p' := by
  unfold rExp at h
  split at h
  · rename_i c
    split at h
    · cases h
    · rename_i z
      cases h
      have z' : (dgs t (ePlace t p)).length ≠ 0 := by rw [List.length_take] at z; omega
      have go1 : go (some s) ((t.drop p).take 1) = some .e0 := by rw [go_one c]; exact he
      have el : p + 1 ≤ ePlace t p := by unfold ePlace; split <;> omega
      refine .step go1 (at_lt c) ?_
      have ok := e_ok (t := t) (p := p) (at_lt c) z'
      have pe : p + 1 + (ePlace t p + ((dgs t (ePlace t p)).take 3).length - (p + 1)) = ePlace t p + ((dgs t (ePlace t p)).take 3).length := by omega
      refine .step ok (by omega) ?_
      rw [pe]
      obtain ⟨c2, hc2⟩ : ∃ c2, t[ePlace t p + ((dgs t (ePlace t p)).take 3).length]? = some c2 := ⟨_, List.getElem?_eq_getElem hm⟩
      refine .dead hc2 ?_
      unfold stp
      dsimp only
      by_cases g : isDigit c2 = true
      · rw [if_pos g, if_neg]
        intro k3
        rw [List.length_take] at k3 hc2
        rw [Nat.min_eq_right (by omega)] at hc2
        have := (dgs_at (t := t) (p := ePlace t p) (k := (dgs t (ePlace t p)).length) (Nat.le_refl _)).mpr ⟨c2, hc2, g⟩
        omega
      · rw [if_neg g]
  · rename_i c
    cases h
    obtain ⟨c2, hc2⟩ : ∃ c2, t[p]? = some c2 := ⟨_, List.getElem?_eq_getElem hm⟩
    exact .dead hc2 (hd c2 hc2 fun z => c (by rw [hc2, z]))
theorem tail_end {n : Int} {p' r' : Nat} (hp : p ≤ t.length) (h : rExp t p r = .ok n p' r') (hm : ¬ p' < t.length) : (t.drop p = [] ∧ n = 0) ∨ ∃ x, t.drop p = 101 :: x ∧ exponentOf x = some n := by
  unfold rExp at h
  split at h
  · rename_i c
    right
    split at h
    · cases h
    · rename_i z
      cases h
      refine ⟨t.drop (p + 1), drop_some c, ?_⟩
      have el : ePlace t p ≤ t.length := ePlace_le c
      have pre : (dgs t (ePlace t p)).take 3 = t.drop (ePlace t p) := by
        have h1 : (dgs t (ePlace t p)).take 3 = (t.drop (ePlace t p)).take ((dgs t (ePlace t p)).take 3).length := by
          rw [dgs_take (by rw [List.length_take]; omega), List.length_take]
          by_cases g : 3 ≤ (dgs t (ePlace t p)).length
          · rw [Nat.min_eq_left g]
          · rw [Nat.min_eq_right (by omega), List.take_length, List.take_of_length_le (by omega)]
        rw [h1]
        exact List.take_of_length_le (by rw [List.length_drop]; omega)
      have k3 : (t.drop (ePlace t p)).length ≤ 3 := by rw [← pre, List.length_take]; omega
      have k1 : 1 ≤ (t.drop (ePlace t p)).length := by rw [← pre]; omega
      have ka : (t.drop (ePlace t p)).all isDigit = true := by
        rw [← pre]; exact List.all_eq_true.mpr fun x hx => List.all_eq_true.mp (dgs_all t _) x (List.mem_of_mem_take hx)
      rw [pre]
      unfold exponentOf
      have hh : (t.drop (p + 1)).head? = t[p + 1]? := by rw [List.head?_drop]
      rw [hh]
      by_cases m : t[p + 1]? = some 45
      · have e : ePlace t p = p + 1 + 1 := if_pos m
        simp only [m, if_true]
        rw [List.drop_drop, ← e, if_pos ⟨k1, k3, ka⟩]
      · have e : ePlace t p = p + 1 := if_neg m
        simp only [m, if_false]
        rw [← e, if_pos ⟨k1, k3, ka⟩]
  · rename_i c
    cases h
    left
    exact ⟨List.drop_eq_nil_of_le (by omega), rfl⟩
end
theorem tenR_val (d e : Int) : 0 < (tenR d e).2 ∧ ((tenR d e).1 : Rat) / ((tenR d e).2 : Rat) = (d : Rat) * Sh.ten e := by
  have E : tenR d e = (d * 10 ^ e.toNat, 10 ^ (-e).toNat) := by
    unfold tenR
    by_cases c : e < 0
    · rw [if_pos c, show e.toNat = 0 by omega, Int.pow_zero, Int.mul_one]
    · rw [if_neg c, show (-e).toNat = 0 by omega, Int.pow_zero]
  rw [E]
  refine ⟨pow10_pos _, ?_⟩
  dsimp only
  rw [ten_q, Rat.intCast_mul, Rat.div_def, Rat.div_def, Rat.mul_assoc]
theorem s0_s1 {t : List UInt8} {q : Nat} (h : t[0]? ≠ some 45) (b : Bad .s1 t 0 q) : Bad .s0 t 0 q := by
  obtain ⟨h1, h2⟩ := b
  rw [List.drop_zero] at h1 h2
  cases t with
  | nil => exact ⟨h1, rfl⟩
  | cons c t =>
    have c0 : c ≠ 45 := fun z => h (by rw [z]; rfl)
    have e : stp .s0 c = stp .s1 c := by unfold stp; dsimp only; rw [if_neg c0]
    refine ⟨?_, ?_⟩
    · rw [List.drop_zero, h1]
      show _ + (match stp .s1 c with | none => 0 | some s' => lived s' t + 1) = _ + (match stp .s0 c with | none => 0 | some s' => lived s' t + 1)
      rw [e]
    · rw [List.drop_zero, go_cons, e, ← go_cons]; exact h2
theorem sg_bad {t : List UInt8} {q : Nat} (b : Bad .s1 t (if t[0]? = some 45 then 1 else 0) q) : Bad .s0 t 0 q := by
  by_cases c : t[0]? = some 45
  · rw [if_pos c] at b
    exact .step (s' := .s1) (k := 1) (by rw [go_one c]; rfl) (at_lt c) (by rw [Nat.zero_add]; exact b)
  · rw [if_neg c] at b
    exact s0_s1 c b
theorem int_stp {n : Nat} {c : UInt8} (h : isDigit c = false) : stp (.int n) c = if c = 46 then (if n < 40 then some (.pt n) else none) else if c = 101 then some .e0 else if c = 47 then (if n < 40 then some (.sl n) else none) else none := by
  unfold stp
  dsimp only
  rw [if_neg (by rw [h]; decide)]
theorem fr_stp {n : Nat} {c : UInt8} (h : isDigit c = false) : stp (.fr n) c = if c = 101 then some .e0 else none := by
  unfold stp
  dsimp only
  rw [if_neg (by rw [h]; decide)]
theorem parts_of {t a : List UInt8} {p0 p1 : Nat} (h0 : p0 = if t[0]? = some 45 then 1 else 0) (ha : a = dgs t p0) (h1 : p1 = p0 + a.length) :
    numeral t = numV (decide (t[0]? = some 45)) a (bOf (t.drop p1)) (vOf (t.drop p1)) (ptOf (t.drop p1)) := by
  have hh : t.head? = t[0]? := List.head?_eq_getElem?
  have r : rOf t = t.drop p0 := by
    unfold rOf
    rw [hh, h0]
    by_cases c : t[0]? = some 45
    · rw [if_pos c, if_pos c]
    · rw [if_neg c, if_neg c]; rfl
  have ng : (t.head? == some 45) = decide (t[0]? = some 45) := by
    rw [hh]
    by_cases c : t[0]? = some 45
    · rw [c]; rfl
    · rw [decide_eq_false c, beq_eq_false_iff_ne]; exact c
  have ea : (t.drop p0).takeWhile isDigit = a := ha.symm
  rw [numeral_V, r, ng, ea, List.drop_drop, ← h1]
theorem pt_drop (t : List UInt8) (p : Nat) : ptOf (t.drop p) = decide (t[p]? = some 46) := by
  unfold ptOf
  rw [List.head?_drop]
  by_cases c : t[p]? = some 46
  · rw [c]; rfl
  · rw [decide_eq_false c, beq_eq_false_iff_ne]; exact c
theorem neg_div (x y : Rat) : -x / y = -(x / y) := by rw [Rat.div_def, Rat.div_def, Rat.neg_mul]
theorem sgn_val {c : Prop} [Decidable c] {x : Int × Int} {q : Rat} (h : (x.1 : Rat) / (x.2 : Rat) = q) : (((if c then (-x.1, x.2) else x : Int × Int).1 : Rat)) / (((if c then (-x.1, x.2) else x : Int × Int).2 : Rat)) = Sh.signed (decide c) q := by
  unfold Sh.signed
  by_cases g : c
  · rw [if_pos g, if_pos (decide_eq_true g), ← h]
    dsimp only
    rw [Rat.intCast_neg, neg_div]
  · rw [if_neg g, if_neg (by rw [decide_eq_false g]; decide), ← h]
theorem sgn_pos {c : Prop} [Decidable c] {x : Int × Int} (h : 0 < x.2) : 0 < (if c then (-x.1, x.2) else x : Int × Int).2 := by
  split <;> exact h
theorem tail_spec {t a b : List UInt8} {s : St} {p r : Nat} (he : stp s 101 = some .e0) (hd : ∀ c, t[p]? = some c → c ≠ 101 → stp s c = none) (hp : p ≤ t.length) (a0 : a ≠ []) (ab : a.length + b.length ≤ 40) {pt : Bool} (hb : pt = true → b ≠ []) {neg : Bool} :
    (∀ q, rTail t a b p r = .bad q → Bad s t p q) ∧ ∀ x p' r', rTail t a b p r = .ok x p' r' → (p' < t.length → Bad s t p p') ∧ (¬ p' < t.length → 0 < x.2 ∧ ∃ v : Rat, (x.1 : Rat) / (x.2 : Rat) = v ∧ numV neg a b (t.drop p) pt = some (Sh.signed neg v)) := by
  unfold rTail
  constructor
  · intro q h
    cases e : rExp t p r with
    | bad q' => rw [e] at h; cases h; exact tail_bad he e
    | ok n p' r' => rw [e] at h; cases h
  · intro x p' r' h
    cases e : rExp t p r with
    | bad q' => rw [e] at h; cases h
    | ok n p2 r2 =>
      rw [e] at h
      cases h
      refine ⟨fun hm => tail_more he hd hp e hm, fun hm => ?_⟩
      obtain ⟨v1, v2⟩ := tenR_val ((numberOf (a ++ b) : Nat) : Int) (n - (b.length : Int))
      refine ⟨v1, _, v2, ?_⟩
      have c0 : ¬ (a = [] ∨ (pt = true ∧ b = []) ∨ MOST < a.length + b.length) := by
        rintro (z | z | z)
        · exact a0 z
        · exact hb z.1 z.2
        · simp only [MOST] at z; omega
      unfold numV
      rw [if_neg c0]
      rcases tail_end hp e hm with ⟨d0, rfl⟩ | ⟨x, dx, ex⟩
      · rw [if_pos d0, show (0 : Int) - (b.length : Int) = -(b.length : Int) by omega]
        rfl
      · rw [dx, if_neg (List.cons_ne_nil _ _), if_pos (show ((101 : UInt8) :: x).head? = some 101 from rfl)]
        show Option.map _ (exponentOf x) = _
        rw [ex]
        rfl
theorem number_spec (t : List UInt8) : (∀ q, rNumber t = .bad q → Bad .s0 t 0 q) ∧ ∀ x p r, rNumber t = .ok x p r → 0 < x.2 ∧ numeral t = some ((x.1 : Rat) / (x.2 : Rat)) := by
  obtain ⟨p0, hp0⟩ : ∃ p0, p0 = if t[0]? = some 45 then 1 else 0 := ⟨_, rfl⟩
  have p0l : p0 ≤ t.length := by
    rw [hp0]
    split
    · rename_i c; exact at_lt c
    · exact Nat.zero_le _
  have sg : ∀ {q}, Bad .s1 t p0 q → Bad .s0 t 0 q := fun b => sg_bad (by rw [← hp0]; exact b)
  -- what is asked of the size
  suffices S : (∀ q, rSize t p0 40 = .bad q → Bad .s1 t p0 q) ∧ ∀ x p r, rSize t p0 40 = .ok x p r → (p < t.length → Bad .s1 t p0 p) ∧ (¬ p < t.length → 0 < x.2 ∧ ∃ v : Rat, (x.1 : Rat) / (x.2 : Rat) = v ∧ numeral t = some (Sh.signed (decide (t[0]? = some 45)) v)) by
    obtain ⟨S1, S2⟩ := S
    unfold rNumber
    rw [← hp0]
    constructor
    · intro q h
      cases e : rSize t p0 40 with
      | bad q' => rw [e] at h; cases h; exact sg (S1 _ e)
      | ok x p r =>
        rw [e] at h
        dsimp only at h
        split at h
        · rename_i hm
          cases h
          exact sg ((S2 x _ r e).1 hm)
        · cases h
    · intro y p r h
      cases e : rSize t p0 40 with
      | bad q' => rw [e] at h; cases h
      | ok x p' r' =>
        rw [e] at h
        dsimp only at h
        split at h
        · cases h
        · rename_i hm
          cases h
          obtain ⟨k1, v, k2, k3⟩ := (S2 x _ _ e).2 hm
          refine ⟨sgn_pos k1, ?_⟩
          rw [k3, sgn_val k2]
  unfold rSize
  cases ea : rDigits t p0 40 with
  | bad q' =>
    constructor
    · intro q h
      cases h
      exact digits_bad dr_s1 (fun _ _ _ => trivial) p0l ea
    · intro x p r h; cases h
  | ok a p1 r1 =>
    dsimp only
    obtain ⟨xa, x1, xr, al, a1⟩ := rDigits_ok ea
    have p1l : p1 ≤ t.length := by
      have := dgs_len t p0 p0l
      rw [← xa] at this
      omega
    have run1 := digits_ok dr_s1 (fun _ _ _ => trivial) ea
    have st1 : ∀ {q}, Bad (.int a.length) t p1 q → Bad .s1 t p0 q := fun b => .step run1 (by omega) (by rw [← x1]; exact b)
    have nd1 : ∀ c, t[p1]? = some c → isDigit c = false := fun c hc => dgs_end xa (by rw [← x1]; exact hc)
    have a0 : a ≠ [] := fun z => by rw [z] at a1; simp at a1
    have pr := parts_of hp0 xa x1
    rw [pt_drop] at pr
    by_cases c : 0 < r1 ∧ t[p1]? = some 47
    · rw [if_pos c]
      have h46 : ¬ t[p1]? = some 46 := fun z => by rw [c.2] at z; exact absurd (Option.some.inj z) (by decide)
      have e1 : bOf (t.drop p1) = [] := by unfold bOf; rw [pt_drop, decide_eq_false h46]; rfl
      have e2 : vOf (t.drop p1) = t.drop p1 := by unfold vOf; rw [pt_drop, decide_eq_false h46]; rfl
      rw [decide_eq_false h46, e1, e2] at pr
      have go1 : go (some (.int a.length)) ((t.drop p1).take 1) = some (.sl a.length) := by
        rw [go_one c.2, int_stp (by decide), if_neg (by decide), if_neg (by decide), if_pos rfl, if_pos (by omega)]
      have st2 : ∀ {q}, Bad (.sl a.length) t (p1 + 1) q → Bad .s1 t p0 q := fun b => st1 (.step go1 (at_lt c.2) b)
      rw [show r1 = 40 - a.length by omega]
      have n40 : a.length < 40 := by omega
      cases ed : rDivisor t (p1 + 1) (40 - a.length) with
      | bad q' =>
        constructor
        · intro q h
          cases h
          exact st2 (divisor_bad n40 (at_lt c.2) ed)
        · intro x p r h; cases h
      | ok m p2 r2 =>
        constructor
        · intro q h; cases h
        · intro x p r h
          cases h
          obtain ⟨N, g1, g2, g3, g4, g5, g6, g7, g8⟩ := divisor_ok n40 (at_lt c.2) ed
          refine ⟨fun hm => ?_, fun hm => ⟨by show (0 : Int) < (m : Int); omega, _, rfl, ?_⟩⟩
          · refine st2 (.step g1 (by omega) ?_)
            rw [show p1 + 1 + (p2 - (p1 + 1)) = p2 by omega]
            refine .here (fun c2 hc2 => ?_) fun hn => absurd (List.getElem?_eq_none_iff.mp hn) (by omega)
            unfold stp
            dsimp only
            rw [if_neg (by rw [g5 c2 hc2]; decide)]
          · have whole : (t.drop (p1 + 1)).take (p2 - (p1 + 1)) = t.drop (p1 + 1) := List.take_of_length_le (by rw [List.length_drop]; omega)
            rw [whole] at g6 g7
            rw [pr]
            unfold numV
            rw [if_neg (by
              rintro (z | z | z)
              · exact a0 z
              · exact absurd z.1 (by decide)
              · simp only [MOST, List.length_nil] at z; omega), drop_some c.2, if_neg (List.cons_ne_nil _ _)]
            have dr : List.drop 1 ((47 : UInt8) :: t.drop (p1 + 1)) = t.drop (p1 + 1) := rfl
            rw [dr]
            have x0 : t.drop (p1 + 1) ≠ [] := fun z => by rw [z] at g7; exact g8 g7.symm
            have xl : a.length + (t.drop (p1 + 1)).length ≤ MOST := by rw [List.length_drop]; show _ ≤ 40; omega
            rw [if_neg (by show ¬ some (47 : UInt8) = some 101; decide), if_pos ⟨rfl, rfl, x0, g6, xl, by rw [g7]; exact g8⟩, g7]
            rfl
    · rw [if_neg c]
      by_cases c2 : 0 < r1 ∧ t[p1]? = some 46
      · rw [if_pos c2]
        have e1 : bOf (t.drop p1) = dgs t (p1 + 1) := by
          unfold bOf
          rw [pt_drop, decide_eq_true c2.2, if_pos rfl, List.drop_drop]
          rfl
        have go1 : go (some (.int a.length)) ((t.drop p1).take 1) = some (.pt a.length) := by
          rw [go_one c2.2, int_stp (by decide), if_pos rfl, if_pos (by omega)]
        have st2 : ∀ {q}, Bad (.pt a.length) t (p1 + 1) q → Bad .s1 t p0 q := fun b => st1 (.step go1 (at_lt c2.2) b)
        have n40 : a.length < 40 := by omega
        rw [show r1 = 40 - a.length by omega]
        cases eb : rDigits t (p1 + 1) (40 - a.length) with
        | bad q' =>
          constructor
          · intro q h
            cases h
            exact st2 (digits_bad (dr_pt n40) (fun _ _ _ => trivial) (at_lt c2.2) eb)
          · intro x p r h; cases h
        | ok b p2 r2 =>
          dsimp only
          obtain ⟨xb, x2, xr2, bl, b1⟩ := rDigits_ok eb
          have p2l : p2 ≤ t.length := by
            have := dgs_len t (p1 + 1) (at_lt c2.2)
            rw [← xb] at this
            omega
          have run2 := digits_ok (dr_pt n40) (fun _ _ _ => trivial) eb
          have st3 : ∀ {q}, Bad (.fr (a.length + b.length)) t p2 q → Bad .s1 t p0 q := fun k => st2 (.step run2 (by omega) (by rw [← x2]; exact k))
          have nd2 : ∀ c, t[p2]? = some c → isDigit c = false := fun c hc => dgs_end xb (by rw [← x2]; exact hc)
          have b0 : b ≠ [] := fun z => by rw [z] at b1; simp at b1
          have e2 : vOf (t.drop p1) = t.drop p2 := by
            unfold vOf
            rw [pt_drop, decide_eq_true c2.2, if_pos rfl, List.drop_drop, e1, ← xb, x2, Nat.add_assoc]
          rw [decide_eq_true c2.2, e1, ← xb, e2] at pr
          obtain ⟨T1, T2⟩ := tail_spec (t := t) (a := a) (b := b) (s := .fr (a.length + b.length)) (p := p2) (r := r2) (pt := true) (neg := decide (t[0]? = some 45)) (by rw [fr_stp (by decide)]; rfl) (fun c hc hn => by rw [fr_stp (nd2 c hc), if_neg hn]) p2l a0 (by omega) (fun _ => b0)
          refine ⟨fun q h => st3 (T1 q h), fun x p r h => ⟨fun hm => st3 ((T2 x p r h).1 hm), fun hm => ?_⟩⟩
          rw [pr]
          exact (T2 x p r h).2 hm
      · rw [if_neg c2]
        have hdead : ∀ c, t[p1]? = some c → c ≠ 101 → stp (.int a.length) c = none := fun cc hc hn => by
          rw [int_stp (nd1 cc hc)]
          by_cases k1 : cc = 46
          · rw [if_pos k1, if_neg (fun z => c2 ⟨by omega, by rw [hc, k1]⟩)]
          · rw [if_neg k1, if_neg hn]
            by_cases k2 : cc = 47
            · rw [if_pos k2, if_neg (fun z => c ⟨by omega, by rw [hc, k2]⟩)]
            · rw [if_neg k2]
        obtain ⟨T1, T2⟩ := tail_spec (t := t) (a := a) (b := []) (s := .int a.length) (p := p1) (r := r1) (pt := false) (neg := decide (t[0]? = some 45)) (by rw [int_stp (by decide)]; rfl) hdead p1l a0 (by simp only [List.length_nil]; omega) (fun z => absurd z (by decide))
        refine ⟨fun q h => st1 (T1 q h), fun x p r h => ⟨fun hm => st1 ((T2 x p r h).1 hm), fun hm => ?_⟩⟩
        obtain ⟨k1, v, k2, k3⟩ := (T2 x p r h).2 hm
        refine ⟨k1, v, k2, ?_⟩
        by_cases h46 : t[p1]? = some 46
        · -- no room for a point: no number's text
          exfalso
          have n40 : a.length = 40 := by
            have : ¬ 0 < r1 := fun z => c2 ⟨z, h46⟩
            omega
          have e : rTail t a [] p1 r1 = .ok (tenR ((numberOf (a ++ []) : Nat) : Int) (0 - (([] : List UInt8).length : Int))) p1 r1 := by
            unfold rTail rExp
            rw [if_neg (fun z => by rw [h46] at z; exact absurd (Option.some.inj z) (by decide))]
          rw [e] at h
          cases h
          exact hm (at_lt h46)
        · have e1 : bOf (t.drop p1) = [] := by unfold bOf; rw [pt_drop, decide_eq_false h46]; rfl
          have e2 : vOf (t.drop p1) = t.drop p1 := by unfold vOf; rw [pt_drop, decide_eq_false h46]; rfl
          rw [pr, decide_eq_false h46, e1, e2]
          exact k3
theorem number_bad {t : List UInt8} {q : Nat} (h : rNumber t = .bad q) : numeral t = none ∧ Sh.faultOf t = q := by
  obtain ⟨h1, h2⟩ := (number_spec t).1 q h
  rw [List.drop_zero] at h1 h2
  rw [fault_lived, h1, Nat.zero_add]
  refine ⟨?_, rfl⟩
  have := numeral_acc t
  rw [h2] at this
  simpa using this
end My

namespace Py
open L2
open Sh (Fmt How)
noncomputable def m_kind_of (c : Int) : Int :=
  (c / (65536))
noncomputable def m_width_of (c : Int) : Int :=
  ((c / (256)) % (256))
noncomputable def m_point_of (c : Int) : Int :=
  (c % (256))
noncomputable def m_is_format (c : Int) : Bool :=
  (if (c ∈ ([(2048), (204800), (212992)] : List Int)) then true else (if (¬ ((m_kind_of c) ∈ ([(1), (2)] : List Int))) then false else (if ((m_width_of c) ∈ ([(8), (16), (32), (64)] : List Int)) then (decide ((m_point_of c) ≤ (m_width_of c))) else false)))
noncomputable def m_sign_bit (c : Int) : Int :=
  ((1) * 2 ^ (((m_width_of c) - (1)) : Int).toNat)
noncomputable def m_infinity_raw (c : Int) : Int :=
  ((m_sign_bit c) - ((1) * 2 ^ ((dictI [(32, 23), (64, 52)] (m_width_of c)) : Int).toNat))
noncomputable def m_greatest_raw (c : Int) : Int :=
  (if ((m_kind_of c) = (1)) then ((m_sign_bit c) - (1)) else (if ((m_kind_of c) = (2)) then (((1) * 2 ^ ((m_width_of c) : Int).toNat) - (1)) else (if ((m_kind_of c) = (3)) then ((m_infinity_raw c) - (1)) else (1))))
noncomputable def m_least_raw (c : Int) : Int :=
  (if ((m_kind_of c) = (1)) then (m_sign_bit c) else (if ((m_kind_of c) = (3)) then ((m_sign_bit c) + (m_greatest_raw c)) else (0)))
noncomputable def m_steps_of (c : Int) (r : Int) : Int :=
  (if ((m_kind_of c) = (1)) then (if ((m_sign_bit c) ≤ r) then (r - ((1) * 2 ^ ((m_width_of c) : Int).toNat)) else r) else r)
noncomputable def m_is_mode (mode : Int) : Bool :=
  (if ((0) ≤ mode) then (decide (mode ≤ (4))) else false)
noncomputable def m_in_steps (x_t x_b : Int) (place : Int) : Int × Int :=
  (if ((0) ≤ place) then ((absI x_t), (x_b * 2 ^ (place : Int).toNat)) else (((absI x_t) * 2 ^ ((-place) : Int).toNat), x_b))
noncomputable def m_leading_place (x_t x_b : Int) : Int :=
  (if ((m_in_steps x_t x_b ((bitsI (absI x_t)) - (bitsI x_b))).2 ≤ (m_in_steps x_t x_b ((bitsI (absI x_t)) - (bitsI x_b))).1) then ((bitsI (absI x_t)) - (bitsI x_b)) else (((bitsI (absI x_t)) - (bitsI x_b)) - (1)))
noncomputable def m_quarters (x_t x_b : Int) (place : Int) : Int :=
  (if (((((2) * (m_in_steps x_t x_b place).1) / (m_in_steps x_t x_b place).2) * (m_in_steps x_t x_b place).2) = ((2) * (m_in_steps x_t x_b place).1)) then (((2) * (((2) * (m_in_steps x_t x_b place).1) / (m_in_steps x_t x_b place).2)) + (0)) else (((2) * (((2) * (m_in_steps x_t x_b place).1) / (m_in_steps x_t x_b place).2)) + (1)))
noncomputable def m_is_whole (size : Int) : Bool :=
  (decide ((size % (4)) = (0)))
noncomputable def m_goes_far (size : Int) (mode : Int) (below : Bool) : Bool :=
  (if (mode = (1)) then false else (if (mode = (2)) then (!below) else (if (mode = (3)) then below else (if (¬ (size % (4)) = (2)) then (decide ((size % (4)) = (3))) else (if (mode = (4)) then true else (decide (((size / (4)) % (2)) = (1))))))))
noncomputable def m_rounded (size : Int) (mode : Int) (below : Bool) : Int :=
  (if ((m_is_whole size) = true) then (size / (4)) else (if ((m_goes_far size mode below) = true) then ((size / (4)) + (1)) else (size / (4))))
noncomputable def m_mode_of (how : Int) : Int :=
  (how % (8))
noncomputable def m_holds (how : Int) : Bool :=
  (decide ((8) ≤ how))
noncomputable def m_may_put (f : Int) (how : Int) : Bool :=
  (if ((m_is_format f) = true) then (if ((0) ≤ how) then (if (how ≤ (15)) then (if ((m_is_mode (m_mode_of how)) = true) then (if (¬ (m_kind_of f) = (3)) then true else (m_holds how)) else false) else false) else false) else false)
noncomputable def m_end_raw (f : Int) (below : Bool) : Int :=
  (if (below = true) then (m_least_raw f) else (m_greatest_raw f))
noncomputable def m_put_fixed (x_t x_b : Int) (f : Int) (how : Int) : Int × Int :=
  (if (x_t < (0)) then (if ((m_is_whole (m_quarters x_t x_b (-(m_point_of f)))) = true) then (if ((m_steps_of f (m_least_raw f)) ≤ (-(m_rounded (m_quarters x_t x_b (-(m_point_of f))) (m_mode_of how) (decide (x_t < (0)))))) then (if ((-(m_rounded (m_quarters x_t x_b (-(m_point_of f))) (m_mode_of how) (decide (x_t < (0))))) ≤ (m_steps_of f (m_greatest_raw f))) then ((0), ((-(m_rounded (m_quarters x_t x_b (-(m_point_of f))) (m_mode_of how) (decide (x_t < (0))))) % ((1) * 2 ^ ((m_width_of f) : Int).toNat))) else (if ((m_holds how) = true) then (((1) + (4)), (m_end_raw f (decide (x_t < (0))))) else (((0) + (4)), ((-(m_rounded (m_quarters x_t x_b (-(m_point_of f))) (m_mode_of how) (decide (x_t < (0))))) % ((1) * 2 ^ ((m_width_of f) : Int).toNat))))) else (if ((m_holds how) = true) then (((1) + (4)), (m_end_raw f (decide (x_t < (0))))) else (((0) + (4)), ((-(m_rounded (m_quarters x_t x_b (-(m_point_of f))) (m_mode_of how) (decide (x_t < (0))))) % ((1) * 2 ^ ((m_width_of f) : Int).toNat))))) else (if ((m_steps_of f (m_least_raw f)) ≤ (-(m_rounded (m_quarters x_t x_b (-(m_point_of f))) (m_mode_of how) (decide (x_t < (0)))))) then (if ((-(m_rounded (m_quarters x_t x_b (-(m_point_of f))) (m_mode_of how) (decide (x_t < (0))))) ≤ (m_steps_of f (m_greatest_raw f))) then ((1), ((-(m_rounded (m_quarters x_t x_b (-(m_point_of f))) (m_mode_of how) (decide (x_t < (0))))) % ((1) * 2 ^ ((m_width_of f) : Int).toNat))) else (if ((m_holds how) = true) then (((1) + (4)), (m_end_raw f (decide (x_t < (0))))) else (((1) + (4)), ((-(m_rounded (m_quarters x_t x_b (-(m_point_of f))) (m_mode_of how) (decide (x_t < (0))))) % ((1) * 2 ^ ((m_width_of f) : Int).toNat))))) else (if ((m_holds how) = true) then (((1) + (4)), (m_end_raw f (decide (x_t < (0))))) else (((1) + (4)), ((-(m_rounded (m_quarters x_t x_b (-(m_point_of f))) (m_mode_of how) (decide (x_t < (0))))) % ((1) * 2 ^ ((m_width_of f) : Int).toNat)))))) else (if ((m_is_whole (m_quarters x_t x_b (-(m_point_of f)))) = true) then (if ((m_steps_of f (m_least_raw f)) ≤ (m_rounded (m_quarters x_t x_b (-(m_point_of f))) (m_mode_of how) (decide (x_t < (0))))) then (if ((m_rounded (m_quarters x_t x_b (-(m_point_of f))) (m_mode_of how) (decide (x_t < (0)))) ≤ (m_steps_of f (m_greatest_raw f))) then ((0), ((m_rounded (m_quarters x_t x_b (-(m_point_of f))) (m_mode_of how) (decide (x_t < (0)))) % ((1) * 2 ^ ((m_width_of f) : Int).toNat))) else (if ((m_holds how) = true) then (((1) + (4)), (m_end_raw f (decide (x_t < (0))))) else (((0) + (4)), ((m_rounded (m_quarters x_t x_b (-(m_point_of f))) (m_mode_of how) (decide (x_t < (0)))) % ((1) * 2 ^ ((m_width_of f) : Int).toNat))))) else (if ((m_holds how) = true) then (((1) + (4)), (m_end_raw f (decide (x_t < (0))))) else (((0) + (4)), ((m_rounded (m_quarters x_t x_b (-(m_point_of f))) (m_mode_of how) (decide (x_t < (0)))) % ((1) * 2 ^ ((m_width_of f) : Int).toNat))))) else (if ((m_steps_of f (m_least_raw f)) ≤ (m_rounded (m_quarters x_t x_b (-(m_point_of f))) (m_mode_of how) (decide (x_t < (0))))) then (if ((m_rounded (m_quarters x_t x_b (-(m_point_of f))) (m_mode_of how) (decide (x_t < (0)))) ≤ (m_steps_of f (m_greatest_raw f))) then ((1), ((m_rounded (m_quarters x_t x_b (-(m_point_of f))) (m_mode_of how) (decide (x_t < (0)))) % ((1) * 2 ^ ((m_width_of f) : Int).toNat))) else (if ((m_holds how) = true) then (((1) + (4)), (m_end_raw f (decide (x_t < (0))))) else (((1) + (4)), ((m_rounded (m_quarters x_t x_b (-(m_point_of f))) (m_mode_of how) (decide (x_t < (0)))) % ((1) * 2 ^ ((m_width_of f) : Int).toNat))))) else (if ((m_holds how) = true) then (((1) + (4)), (m_end_raw f (decide (x_t < (0))))) else (((1) + (4)), ((m_rounded (m_quarters x_t x_b (-(m_point_of f))) (m_mode_of how) (decide (x_t < (0)))) % ((1) * 2 ^ ((m_width_of f) : Int).toNat)))))))
noncomputable def m_put_float (x_t x_b : Int) (f : Int) (mode : Int) : Int × Int :=
  (if (x_t = (0)) then ((0), (0)) else (if ((m_greatest_raw f) < ((m_rounded (m_quarters x_t x_b (maxI ((m_leading_place x_t x_b) - (dictI [(32, 23), (64, 52)] (m_width_of f))) (-(dictI [(32, 149), (64, 1074)] (m_width_of f))))) mode (decide (x_t < (0)))) + (((maxI ((m_leading_place x_t x_b) - (dictI [(32, 23), (64, 52)] (m_width_of f))) (-(dictI [(32, 149), (64, 1074)] (m_width_of f)))) - (-(dictI [(32, 149), (64, 1074)] (m_width_of f)))) * 2 ^ ((dictI [(32, 23), (64, 52)] (m_width_of f)) : Int).toNat))) then (((1) + (4)), (m_end_raw f (decide (x_t < (0))))) else (if (x_t < (0)) then (if ((0) < ((m_rounded (m_quarters x_t x_b (maxI ((m_leading_place x_t x_b) - (dictI [(32, 23), (64, 52)] (m_width_of f))) (-(dictI [(32, 149), (64, 1074)] (m_width_of f))))) mode (decide (x_t < (0)))) + (((maxI ((m_leading_place x_t x_b) - (dictI [(32, 23), (64, 52)] (m_width_of f))) (-(dictI [(32, 149), (64, 1074)] (m_width_of f)))) - (-(dictI [(32, 149), (64, 1074)] (m_width_of f)))) * 2 ^ ((dictI [(32, 23), (64, 52)] (m_width_of f)) : Int).toNat))) then (if ((m_is_whole (m_quarters x_t x_b (maxI ((m_leading_place x_t x_b) - (dictI [(32, 23), (64, 52)] (m_width_of f))) (-(dictI [(32, 149), (64, 1074)] (m_width_of f)))))) = true) then ((0), (((m_rounded (m_quarters x_t x_b (maxI ((m_leading_place x_t x_b) - (dictI [(32, 23), (64, 52)] (m_width_of f))) (-(dictI [(32, 149), (64, 1074)] (m_width_of f))))) mode (decide (x_t < (0)))) + (((maxI ((m_leading_place x_t x_b) - (dictI [(32, 23), (64, 52)] (m_width_of f))) (-(dictI [(32, 149), (64, 1074)] (m_width_of f)))) - (-(dictI [(32, 149), (64, 1074)] (m_width_of f)))) * 2 ^ ((dictI [(32, 23), (64, 52)] (m_width_of f)) : Int).toNat)) + (m_sign_bit f))) else ((1), (((m_rounded (m_quarters x_t x_b (maxI ((m_leading_place x_t x_b) - (dictI [(32, 23), (64, 52)] (m_width_of f))) (-(dictI [(32, 149), (64, 1074)] (m_width_of f))))) mode (decide (x_t < (0)))) + (((maxI ((m_leading_place x_t x_b) - (dictI [(32, 23), (64, 52)] (m_width_of f))) (-(dictI [(32, 149), (64, 1074)] (m_width_of f)))) - (-(dictI [(32, 149), (64, 1074)] (m_width_of f)))) * 2 ^ ((dictI [(32, 23), (64, 52)] (m_width_of f)) : Int).toNat)) + (m_sign_bit f)))) else (if ((m_is_whole (m_quarters x_t x_b (maxI ((m_leading_place x_t x_b) - (dictI [(32, 23), (64, 52)] (m_width_of f))) (-(dictI [(32, 149), (64, 1074)] (m_width_of f)))))) = true) then ((0), ((m_rounded (m_quarters x_t x_b (maxI ((m_leading_place x_t x_b) - (dictI [(32, 23), (64, 52)] (m_width_of f))) (-(dictI [(32, 149), (64, 1074)] (m_width_of f))))) mode (decide (x_t < (0)))) + (((maxI ((m_leading_place x_t x_b) - (dictI [(32, 23), (64, 52)] (m_width_of f))) (-(dictI [(32, 149), (64, 1074)] (m_width_of f)))) - (-(dictI [(32, 149), (64, 1074)] (m_width_of f)))) * 2 ^ ((dictI [(32, 23), (64, 52)] (m_width_of f)) : Int).toNat))) else ((1), ((m_rounded (m_quarters x_t x_b (maxI ((m_leading_place x_t x_b) - (dictI [(32, 23), (64, 52)] (m_width_of f))) (-(dictI [(32, 149), (64, 1074)] (m_width_of f))))) mode (decide (x_t < (0)))) + (((maxI ((m_leading_place x_t x_b) - (dictI [(32, 23), (64, 52)] (m_width_of f))) (-(dictI [(32, 149), (64, 1074)] (m_width_of f)))) - (-(dictI [(32, 149), (64, 1074)] (m_width_of f)))) * 2 ^ ((dictI [(32, 23), (64, 52)] (m_width_of f)) : Int).toNat))))) else (if ((m_is_whole (m_quarters x_t x_b (maxI ((m_leading_place x_t x_b) - (dictI [(32, 23), (64, 52)] (m_width_of f))) (-(dictI [(32, 149), (64, 1074)] (m_width_of f)))))) = true) then ((0), ((m_rounded (m_quarters x_t x_b (maxI ((m_leading_place x_t x_b) - (dictI [(32, 23), (64, 52)] (m_width_of f))) (-(dictI [(32, 149), (64, 1074)] (m_width_of f))))) mode (decide (x_t < (0)))) + (((maxI ((m_leading_place x_t x_b) - (dictI [(32, 23), (64, 52)] (m_width_of f))) (-(dictI [(32, 149), (64, 1074)] (m_width_of f)))) - (-(dictI [(32, 149), (64, 1074)] (m_width_of f)))) * 2 ^ ((dictI [(32, 23), (64, 52)] (m_width_of f)) : Int).toNat))) else ((1), ((m_rounded (m_quarters x_t x_b (maxI ((m_leading_place x_t x_b) - (dictI [(32, 23), (64, 52)] (m_width_of f))) (-(dictI [(32, 149), (64, 1074)] (m_width_of f))))) mode (decide (x_t < (0)))) + (((maxI ((m_leading_place x_t x_b) - (dictI [(32, 23), (64, 52)] (m_width_of f))) (-(dictI [(32, 149), (64, 1074)] (m_width_of f)))) - (-(dictI [(32, 149), (64, 1074)] (m_width_of f)))) * 2 ^ ((dictI [(32, 23), (64, 52)] (m_width_of f)) : Int).toNat)))))))
noncomputable def m_put_ratio (x_t x_b : Int) (f : Int) (how : Int) : Int × Int :=
  (if ((m_kind_of f) = (0)) then (if (x_t = (0)) then ((0), (0)) else ((0), (1))) else (if ((m_kind_of f) = (3)) then (m_put_float x_t x_b f (m_mode_of how)) else (m_put_fixed x_t x_b f how)))
noncomputable def m_power_of_ten (exponent : Int) : Int := 10 ^ exponent.toNat
noncomputable def m_times_ten_to (number : Int) (exponent : Int) : Int × Int :=
  (if (exponent < (0)) then (number, (m_power_of_ten (-exponent))) else ((number * (m_power_of_ten exponent)), (1)))
open Sh (Fmt)
theorem width_lt (c : Int) : m_width_of c < 256 := by unfold m_width_of; omega
theorem width_nn (c : Int) : 0 ≤ m_width_of c := by unfold m_width_of; omega
theorem memw {x : Int} : x ∈ ([(8), (16), (32), (64)] : List Int) ↔ x = 8 ∨ x = 16 ∨ x = 32 ∨ x = 64 := by simp
theorem mem3 {x : Int} : x ∈ ([(2048), (204800), (212992)] : List Int) ↔ x = 2048 ∨ x = 204800 ∨ x = 212992 := by simp
theorem mem2 {x : Int} : x ∈ ([(1), (2)] : List Int) ↔ x = 1 ∨ x = 2 := by simp
theorem isf_iff (c : Int) : m_is_format c = true ↔ (c = 2048 ∨ c = 204800 ∨ c = 212992) ∨ ((m_kind_of c = 1 ∨ m_kind_of c = 2) ∧ (m_width_of c = 8 ∨ m_width_of c = 16 ∨ m_width_of c = 32 ∨ m_width_of c = 64) ∧ m_point_of c ≤ m_width_of c) := by
  unfold m_is_format
  rw [← mem3, ← mem2, ← memw]
  by_cases h1 : c ∈ ([(2048), (204800), (212992)] : List Int)
  · rw [if_pos h1]; simp [h1]
  · rw [if_neg h1]
    by_cases h2 : m_kind_of c ∈ ([(1), (2)] : List Int)
    · rw [if_neg (fun z => z h2)]
      by_cases h3 : m_width_of c ∈ ([(8), (16), (32), (64)] : List Int)
      · rw [if_pos h3, decide_eq_true_eq]
        constructor
        · intro h; exact .inr ⟨h2, h3, h⟩
        · intro h; exact (h.resolve_left h1).2.2
      · rw [if_neg h3]
        constructor
        · intro h; cases h
        · intro h; exact absurd (h.resolve_left h1).2.1 h3
    · rw [if_pos h2]
      constructor
      · intro h; cases h
      · intro h; exact absurd (h.resolve_left h1).1 h2
theorem isf_pos {c : Int} (h : m_is_format c = true) : 1 ≤ m_width_of c := by
  rcases (isf_iff c).mp h with (h | h | h) | ⟨_, h, _⟩
  · subst h; decide
  · subst h; decide
  · subst h; decide
  · omega
theorem isf_float {c : Int} (h : m_is_format c = true) (k : m_kind_of c = 3) : m_width_of c = 32 ∨ m_width_of c = 64 := by
  rcases (isf_iff c).mp h with (h | h | h) | ⟨g, _, _⟩
  · subst h; exact absurd k (by decide)
  · subst h; exact .inl (by decide)
  · subst h; exact .inr (by decide)
  · omega
inductive IsFmt : Int → Fmt → Prop
  | truth : IsFmt 2048 .truth
  | f32 : IsFmt 204800 .f32
  | f64 : IsFmt 212992 .f64
  | fix {c : Int} {w p : Nat} {s : Bool} (hw : w = 8 ∨ w = 16 ∨ w = 32 ∨ w = 64) (hp : p ≤ w) (hk : c = (if s = true then 65536 else 131072) + w * 256 + p) : IsFmt c (.fix w p s)
theorem told_iff (w p : Nat) (s : Bool) : (Fmt.fix w p s).told = true ↔ (w = 8 ∨ w = 16 ∨ w = 32 ∨ w = 64) ∧ p ≤ w := by
  unfold Fmt.told
  simp [or_assoc]
theorem fmt_of_is {c : Int} {f : Fmt} (h : IsFmt c f) : ShNumSeed.fmt c = some f := by
  cases h with
  | truth => decide
  | f32 => decide
  | f64 => decide
  | @fix _ w p s hw hp hk =>
    have t := (told_iff w p s).mpr ⟨hw, hp⟩
    unfold ShNumSeed.fmt Sh.formatOf
    have e : c.toNat = (if s = true then 65536 else 131072) + w * 256 + p := by
      cases s
      · rw [if_neg (by decide)] at hk ⊢; omega
      · rw [if_pos rfl] at hk ⊢; omega
    have c0 : ¬ c < 0 := by
      cases s
      · rw [if_neg (by decide)] at hk; omega
      · rw [if_pos rfl] at hk; omega
    rw [if_neg c0]
    dsimp only
    cases s
    · rw [if_neg (by decide)] at e
      have k1 : c.toNat / 65536 = 2 := by omega
      have k2 : c.toNat / 256 % 256 = w := by omega
      have k3 : c.toNat % 256 = p := by omega
      rw [k1, k2, k3, if_neg (by decide), if_neg (by decide), if_pos rfl, if_pos t]
    · rw [if_pos rfl] at e
      have k1 : c.toNat / 65536 = 1 := by omega
      have k2 : c.toNat / 256 % 256 = w := by omega
      have k3 : c.toNat % 256 = p := by omega
      rw [k1, k2, k3, if_neg (by decide), if_pos rfl, if_pos t]
theorem is_of_isf {c : Int} (h : m_is_format c = true) : ∃ f, IsFmt c f := by
  rcases (isf_iff c).mp h with (h | h | h) | ⟨h1, h2, h3⟩
  · subst h; exact ⟨_, .truth⟩
  · subst h; exact ⟨_, .f32⟩
  · subst h; exact ⟨_, .f64⟩
  · unfold m_kind_of m_width_of m_point_of at *
    rcases h1 with k | k
    · refine ⟨_, IsFmt.fix (w := (c / 256 % 256).toNat) (p := (c % 256).toNat) (s := true) (by omega) (by omega) ?_⟩
      rw [if_pos rfl]; omega
    · refine ⟨_, IsFmt.fix (w := (c / 256 % 256).toNat) (p := (c % 256).toNat) (s := false) (by omega) (by omega) ?_⟩
      rw [if_neg (by decide)]; omega
theorem isf_of_is {c : Int} {f : Fmt} (h : IsFmt c f) : m_is_format c = true := by
  rw [isf_iff]
  cases h with
  | truth => exact .inl (.inl rfl)
  | f32 => exact .inl (.inr (.inl rfl))
  | f64 => exact .inl (.inr (.inr rfl))
  | @fix _ w p s hw hp hk =>
    right
    unfold m_kind_of m_width_of m_point_of
    cases s
    · rw [if_neg (by decide)] at hk; omega
    · rw [if_pos rfl] at hk; omega
theorem fmt_some {c : Int} {f : Fmt} (h : ShNumSeed.fmt c = some f) : IsFmt c f := by
  unfold ShNumSeed.fmt at h
  split at h
  · cases h
  · rename_i c0
    unfold Sh.formatOf at h
    dsimp only at h
    split at h
    · split at h
      · rename_i k g
        cases h
        have : c = 2048 := by omega
        subst this; exact .truth
      · cases h
    · split at h
      · split at h
        · rename_i g t
          cases h
          obtain ⟨a, b⟩ := (told_iff _ _ _).mp t
          refine .fix a b ?_
          rw [if_pos rfl]; omega
        · cases h
      · split at h
        · split at h
          · rename_i g t
            cases h
            obtain ⟨a, b⟩ := (told_iff _ _ _).mp t
            refine .fix a b ?_
            rw [if_neg (by decide)]; omega
          · cases h
        · split at h
          · split at h
            · cases h
              have : c = 204800 := by omega
              subst this; exact .f32
            · split at h
              · cases h
                have : c = 212992 := by omega
                subst this; exact .f64
              · cases h
          · cases h
theorem fmt_none {c : Int} (h : ¬ m_is_format c = true) : ShNumSeed.fmt c = none := by
  cases e : ShNumSeed.fmt c with
  | none => rfl
  | some f => exact absurd (isf_of_is (fmt_some e)) h

theorem fix_parts {w p : Nat} {s : Bool} {c : Int} (hw : w = 8 ∨ w = 16 ∨ w = 32 ∨ w = 64) (hp : p ≤ w) (hk : c = (if s = true then 65536 else 131072) + w * 256 + p) :
    m_width_of c = (w : Int) ∧ m_point_of c = (p : Int) ∧ m_kind_of c = (if s = true then 1 else 2) := by
  unfold m_width_of m_point_of m_kind_of
  cases s
  · rw [if_neg (by decide)] at hk; rw [if_neg (by decide)]; omega
  · rw [if_pos rfl] at hk; rw [if_pos rfl]; omega
theorem absI_natAbs (i : Int) : absI i = (i.natAbs : Int) := by
  unfold absI
  split <;> omega
theorem in_steps_eq (t b place : Int) : m_in_steps t b place = ((t.natAbs : Int) * 2 ^ (-place).toNat, b * 2 ^ place.toNat) := by
  unfold m_in_steps
  rw [absI_natAbs]
  by_cases h : 0 ≤ place
  · rw [if_pos h, show (-place).toNat = 0 by omega, Int.pow_zero, Int.mul_one]
  · rw [if_neg h, show place.toNat = 0 by omega, Int.pow_zero, Int.mul_one]
noncomputable def quartI (T D : Int) : Int := if (2 * T / D) * D = 2 * T then 2 * (2 * T / D) + 0 else 2 * (2 * T / D) + 1
theorem quarters_eq (t b place : Int) : m_quarters t b place = quartI ((t.natAbs : Int) * 2 ^ (-place).toNat) (b * 2 ^ place.toNat) := by
  unfold m_quarters quartI
  rw [in_steps_eq]
theorem quart_is {T D : Int} (hT : 0 ≤ T) (hD : 0 < D) : quartI T D / 4 = T / D ∧ (quartI T D % 4 = 0 ↔ T % D = 0) ∧ (quartI T D % 4 = 2 ↔ 2 * (T % D) = D) ∧ (quartI T D % 4 = 3 ↔ D < 2 * (T % D)) := by
  have e0 := Int.mul_ediv_add_emod T D
  have r0 := Int.emod_nonneg T (show D ≠ 0 by omega)
  have r1 := Int.emod_lt_of_pos T hD
  have e1 : 2 * T = 2 * (T % D) + D * (2 * (T / D)) := by
    have : D * (2 * (T / D)) = 2 * (D * (T / D)) := Int.mul_left_comm ..
    rw [this]; omega
  have e2 : 2 * T / D = 2 * (T % D) / D + 2 * (T / D) := by rw [e1, Int.add_mul_ediv_left _ _ (show D ≠ 0 by omega)]
  unfold quartI
  by_cases c : 2 * (T % D) < D
  · have e3 : 2 * (T % D) / D = 0 := Int.ediv_eq_zero_of_lt (by omega) c
    rw [e3, Int.zero_add] at e2
    rw [e2]
    have e4 : (2 * (T / D) * D = 2 * T) ↔ T % D = 0 := by
      have : 2 * (T / D) * D = 2 * (D * (T / D)) := by rw [Int.mul_assoc, Int.mul_comm (T / D) D]
      rw [this]
      constructor <;> intro z <;> omega
    by_cases c2 : T % D = 0
    · rw [if_pos (e4.mpr c2)]; omega
    · rw [if_neg (fun z => c2 (e4.mp z))]; omega
  · have e3 : 2 * (T % D) / D = 1 := by
      have : 2 * (T % D) = (2 * (T % D) - D) + D * 1 := by omega
      rw [this, Int.add_mul_ediv_left _ _ (show D ≠ 0 by omega), Int.ediv_eq_zero_of_lt (by omega) (by omega)]
      rfl
    rw [e3] at e2
    rw [e2]
    have e4 : ((1 + 2 * (T / D)) * D = 2 * T) ↔ 2 * (T % D) = D := by
      have : (1 + 2 * (T / D)) * D = D + 2 * (D * (T / D)) := by rw [Int.add_mul, Int.one_mul, Int.mul_assoc, Int.mul_comm (T / D) D]
      rw [this]
      constructor <;> intro z <;> omega
    by_cases c2 : 2 * (T % D) = D
    · rw [if_pos (e4.mpr c2)]; omega
    · rw [if_neg (fun z => c2 (e4.mp z))]; omega
theorem neg_parts {T D : Int} (hD : 0 < D) : ((-T) % D = 0 ↔ T % D = 0) ∧ (T % D = 0 → (-T) / D = -(T / D)) ∧ (¬ T % D = 0 → (-T) / D = -(T / D) - 1 ∧ (-T) % D = D - T % D) := by
  have e0 := Int.mul_ediv_add_emod T D
  have r0 := Int.emod_nonneg T (show D ≠ 0 by omega)
  have r1 := Int.emod_lt_of_pos T hD
  by_cases c : T % D = 0
  · have e : -T = 0 + D * (-(T / D)) := by rw [Int.mul_neg]; omega
    have h1 : (-T) % D = 0 := by rw [e, Int.add_mul_emod_self_left]; rfl
    have h2 : (-T) / D = -(T / D) := by rw [e, Int.add_mul_ediv_left _ _ (show D ≠ 0 by omega)]; simp
    exact ⟨⟨fun _ => c, fun _ => h1⟩, fun _ => h2, fun z => absurd c z⟩
  · have e : -T = (D - T % D) + D * (-(T / D) - 1) := by rw [Int.mul_sub, Int.mul_neg]; omega
    have h1 : (-T) % D = D - T % D := by rw [e, Int.add_mul_emod_self_left, Int.emod_eq_of_lt (by omega) (by omega)]
    have h2 : (-T) / D = -(T / D) - 1 := by
      rw [e, Int.add_mul_ediv_left _ _ (show D ≠ 0 by omega), Int.ediv_eq_zero_of_lt (by omega) (by omega)]; simp
    exact ⟨⟨fun z => by omega, fun z => absurd z c⟩, fun z => absurd z c, fun _ => ⟨h2, h1⟩⟩
theorem rounded_far (Z : Int) (mode : Int) (s : Bool) : m_rounded Z mode s = if Z % 4 = 0 then Z / 4 else if m_goes_far Z mode s = true then Z / 4 + 1 else Z / 4 := by
  unfold m_rounded m_is_whole
  by_cases c : Z % 4 = 0
  · rw [if_pos c, if_pos (by rw [decide_eq_true_eq]; exact c)]
  · rw [if_neg c, if_neg (by rw [decide_eq_true_eq]; exact c)]
theorem far_iff (Z : Int) (m : Nat) (s : Bool) : m_goes_far Z (m : Int) s = true ↔ (m = 2 ∧ s = false) ∨ (m = 3 ∧ s = true) ∨ (m ≠ 1 ∧ m ≠ 2 ∧ m ≠ 3 ∧ (Z % 4 = 3 ∨ (Z % 4 = 2 ∧ (m = 4 ∨ Z / 4 % 2 = 1)))) := by
  unfold m_goes_far
  by_cases c1 : m = 1
  · subst c1; simp
  · rw [if_neg (by omega)]
    by_cases c2 : m = 2
    · subst c2; cases s <;> simp
    · rw [if_neg (by omega)]
      by_cases c3 : m = 3
      · subst c3; cases s <;> simp
      · rw [if_neg (by omega)]
        by_cases c4 : Z % 4 = 2
        · rw [if_neg (fun z => z c4)]
          by_cases c5 : m = 4
          · subst c5; simp [c4]
          · rw [if_neg (by omega), decide_eq_true_eq]; omega
        · rw [if_pos c4, decide_eq_true_eq]; omega
theorem round_pos {T D : Int} (hT : 0 ≤ T) (hD : 0 < D) (m : Nat) : m_rounded (quartI T D) (m : Int) false = My.wholeI m T D := by
  obtain ⟨q1, q2, q3, q4⟩ := quart_is hT hD
  have r1 := Int.emod_lt_of_pos T hD
  have r0 := Int.emod_nonneg T (show D ≠ 0 by omega)
  rw [rounded_far, q1]
  unfold My.wholeI
  by_cases c : T % D = 0
  · rw [if_pos (q2.mpr c), if_pos c]
  · rw [if_neg (fun z => c (q2.mp z)), if_neg c]
    have F := far_iff (quartI T D) m false
    rw [q1, q3, q4] at F
    by_cases c1 : m = 1
    · rw [if_pos c1, if_pos hT, if_neg (fun z => by have := F.mp z; omega)]
    · rw [if_neg c1]
      by_cases c2 : m = 2
      · rw [if_pos c2, if_pos (F.mpr (.inl ⟨c2, rfl⟩))]
      · rw [if_neg c2]
        by_cases c3 : m = 3
        · rw [if_pos c3, if_neg (fun z => by have := F.mp z; simp [c3] at this)]
        · rw [if_neg c3]
          by_cases c4 : 2 * (T % D) < D
          · rw [if_pos c4, if_neg (fun z => by have := F.mp z; omega)]
          · rw [if_neg c4]
            by_cases c5 : D < 2 * (T % D)
            · rw [if_pos c5, if_pos (F.mpr (by omega))]
            · rw [if_neg c5]
              by_cases c6 : m = 4
              · rw [if_pos c6, if_pos hT, if_pos (F.mpr (by omega))]
              · rw [if_neg c6]
                by_cases c7 : T / D % 2 = 0
                · rw [if_pos c7, if_neg (fun z => by have := F.mp z; omega)]
                · rw [if_neg c7, if_pos (F.mpr (by omega))]
theorem round_neg {T D : Int} (hT : 0 ≤ T) (hD : 0 < D) (m : Nat) : -(m_rounded (quartI T D) (m : Int) true) = My.wholeI m (-T) D := by
  obtain ⟨q1, q2, q3, q4⟩ := quart_is hT hD
  obtain ⟨n1, n2, n3⟩ := neg_parts (T := T) hD
  have r1 := Int.emod_lt_of_pos T hD
  have r0 := Int.emod_nonneg T (show D ≠ 0 by omega)
  rw [rounded_far, q1]
  unfold My.wholeI
  by_cases c : T % D = 0
  · rw [if_pos (q2.mpr c), if_pos (n1.mpr c), n2 c]
  · obtain ⟨n4, n5⟩ := n3 c
    have T0 : ¬ 0 ≤ -T := by
      intro z
      have : T = 0 := by omega
      rw [this] at c; simp at c
    rw [if_neg (fun z => c (q2.mp z)), if_neg (fun z => c (n1.mp z)), n4, n5]
    have F := far_iff (quartI T D) m true
    rw [q1, q3, q4] at F
    by_cases c1 : m = 1
    · rw [if_pos c1, if_neg T0, if_neg (fun z => by have := F.mp z; omega)]; omega
    · rw [if_neg c1]
      by_cases c2 : m = 2
      · rw [if_pos c2, if_neg (fun z => by have := F.mp z; simp [c2] at this)]; omega
      · rw [if_neg c2]
        by_cases c3 : m = 3
        · rw [if_pos c3, if_pos (F.mpr (.inr (.inl ⟨c3, rfl⟩)))]; omega
        · rw [if_neg c3]
          by_cases c4 : D < 2 * (T % D)
          · rw [if_pos (show 2 * (D - T % D) < D by omega), if_pos (F.mpr (by omega))]; omega
          · rw [if_neg (show ¬ 2 * (D - T % D) < D by omega)]
            by_cases c5 : 2 * (T % D) < D
            · rw [if_pos (show D < 2 * (D - T % D) by omega), if_neg (fun z => by have := F.mp z; omega)]; omega
            · rw [if_neg (show ¬ D < 2 * (D - T % D) by omega)]
              by_cases c6 : m = 4
              · rw [if_pos c6, if_neg T0, if_pos (F.mpr (by omega))]; omega
              · rw [if_neg c6]
                by_cases c7 : T / D % 2 = 0
                · rw [if_neg (show ¬ (-(T / D) - 1) % 2 = 0 by omega), if_neg (fun z => by have := F.mp z; omega)]; omega
                · rw [if_pos (show (-(T / D) - 1) % 2 = 0 by omega), if_pos (F.mpr (by omega))]; omega
theorem rounded_nn {T D : Int} (hT : 0 ≤ T) (hD : 0 < D) (mode : Int) (s : Bool) : T / D ≤ m_rounded (quartI T D) mode s := by
  rw [rounded_far, (quart_is hT hD).1]
  split
  · omega
  · split <;> omega
theorem round_is {t b place : Int} (hb : 0 < b) (m : Nat) :
    (My.wholeI m (t * 2 ^ (-place).toNat) (b * 2 ^ place.toNat) = if t < 0 then -(m_rounded (m_quarters t b place) (m : Int) (decide (t < 0))) else m_rounded (m_quarters t b place) (m : Int) (decide (t < 0))) ∧
    (m_is_whole (m_quarters t b place) = true ↔ (t * 2 ^ (-place).toNat) % (b * 2 ^ place.toNat) = 0) ∧
    ((t.natAbs : Int) * 2 ^ (-place).toNat) / (b * 2 ^ place.toNat) ≤ m_rounded (m_quarters t b place) (m : Int) (decide (t < 0)) ∧ 0 ≤ ((t.natAbs : Int) * 2 ^ (-place).toNat) / (b * 2 ^ place.toNat) := by
  have hD : 0 < b * 2 ^ place.toNat := Int.mul_pos hb (My.pow2_pos _)
  have hT : 0 ≤ (t.natAbs : Int) * 2 ^ (-place).toNat := Int.mul_nonneg (by omega) (Int.le_of_lt (My.pow2_pos _))
  rw [quarters_eq]
  have w : m_is_whole (quartI ((t.natAbs : Int) * 2 ^ (-place).toNat) (b * 2 ^ place.toNat)) = true ↔ ((t.natAbs : Int) * 2 ^ (-place).toNat) % (b * 2 ^ place.toNat) = 0 := by
    unfold m_is_whole
    rw [decide_eq_true_eq]
    exact (quart_is hT hD).2.1
  have nn := Int.ediv_nonneg hT (Int.le_of_lt hD)
  by_cases h : t < 0
  · have e : t * 2 ^ (-place).toNat = -((t.natAbs : Int) * 2 ^ (-place).toNat) := by rw [← Int.neg_mul]; congr 1; omega
    rw [if_pos h, e, decide_eq_true h]
    exact ⟨(round_neg hT hD m).symm, w.trans (neg_parts hD).1.symm, rounded_nn hT hD _ _, nn⟩
  · have e : t * 2 ^ (-place).toNat = (t.natAbs : Int) * 2 ^ (-place).toNat := by congr 1; omega
    rw [if_neg h, decide_eq_false h]
    rw [e]
    exact ⟨(round_pos hT hD m).symm, w, rounded_nn hT hD _ _, nn⟩

theorem le_mul_one {a b : Int} (ha : 0 ≤ a) (hb : 1 ≤ b) : a ≤ a * b := by
  have := Int.mul_le_mul_of_nonneg_left hb ha
  rw [Int.mul_one] at this
  exact this
theorem put_fixed_nice (t b f how : Int) : m_put_fixed t b f how =
    (if m_steps_of f (m_least_raw f) ≤ (if t < 0 then -(m_rounded (m_quarters t b (-(m_point_of f))) (m_mode_of how) (decide (t < 0))) else m_rounded (m_quarters t b (-(m_point_of f))) (m_mode_of how) (decide (t < 0)))
        ∧ (if t < 0 then -(m_rounded (m_quarters t b (-(m_point_of f))) (m_mode_of how) (decide (t < 0))) else m_rounded (m_quarters t b (-(m_point_of f))) (m_mode_of how) (decide (t < 0))) ≤ m_steps_of f (m_greatest_raw f)
      then ((if m_is_whole (m_quarters t b (-(m_point_of f))) = true then 0 else 1), (if t < 0 then -(m_rounded (m_quarters t b (-(m_point_of f))) (m_mode_of how) (decide (t < 0))) else m_rounded (m_quarters t b (-(m_point_of f))) (m_mode_of how) (decide (t < 0))) % (1 * 2 ^ (m_width_of f).toNat))
      else if m_holds how = true then (5, m_end_raw f (decide (t < 0)))
      else ((if m_is_whole (m_quarters t b (-(m_point_of f))) = true then 0 else 1) + 4, (if t < 0 then -(m_rounded (m_quarters t b (-(m_point_of f))) (m_mode_of how) (decide (t < 0))) else m_rounded (m_quarters t b (-(m_point_of f))) (m_mode_of how) (decide (t < 0))) % (1 * 2 ^ (m_width_of f).toNat))) := by
  unfold m_put_fixed
  generalize m_rounded (m_quarters t b (-(m_point_of f))) (m_mode_of how) (decide (t < 0)) = R
  generalize m_quarters t b (-(m_point_of f)) = Z
  generalize m_steps_of f (m_least_raw f) = lo
  generalize m_steps_of f (m_greatest_raw f) = hi
  by_cases h : t < 0
  · simp only [if_pos h]
    by_cases h2 : m_is_whole Z = true <;> by_cases h3 : lo ≤ -R <;> by_cases h4 : -R ≤ hi <;> by_cases h5 : m_holds how = true <;> simp [h2, h3, h4, h5]
  · simp only [if_neg h]
    by_cases h2 : m_is_whole Z = true <;> by_cases h3 : lo ≤ R <;> by_cases h4 : R ≤ hi <;> by_cases h5 : m_holds how = true <;> simp [h2, h3, h4, h5]
theorem fix_ends {w p : Nat} {s : Bool} {c : Int} (hw : w = 8 ∨ w = 16 ∨ w = 32 ∨ w = 64) (hp : p ≤ w) (hk : c = (if s = true then 65536 else 131072) + w * 256 + p) :
    m_steps_of c (m_least_raw c) = My.fixLo w s ∧ m_steps_of c (m_greatest_raw c) = My.fixHi w s ∧ m_least_raw c = ((My.fixLo w s % 2 ^ w).toNat : Int) ∧ m_greatest_raw c = ((My.fixHi w s % 2 ^ w).toNat : Int) := by
  obtain ⟨ew, ep, ek⟩ := fix_parts hw hp hk
  unfold m_steps_of m_least_raw m_greatest_raw m_sign_bit
  rw [ew]
  generalize m_infinity_raw c = x
  clear hk ew
  cases s
  · have ek : m_kind_of c = 2 := ek
    rw [ek]
    simp only [if_neg (show ¬ (2 : Int) = 1 by decide), if_neg (show ¬ (2 : Int) = 3 by decide), if_pos (show (2 : Int) = 2 by decide), if_true]
    clear ek
    rcases hw with h | h | h | h <;> subst h <;> decide
  · have ek : m_kind_of c = 1 := ek
    rw [ek]
    simp only [if_pos (show (1 : Int) = 1 by decide), if_true]
    clear ek
    rcases hw with h | h | h | h <;> subst h <;> decide
theorem may_iff {f how : Int} {g : Fmt} (i : IsFmt f g) : m_may_put f how = true ↔ 0 ≤ how ∧ how < 16 ∧ how % 8 ≤ 4 ∧ (g.isFloat = true → 8 ≤ how) := by
  have k : m_kind_of f = 3 ↔ g.isFloat = true := by
    cases i with
    | truth => decide
    | f32 => decide
    | f64 => decide
    | @fix _ w p s hw hp hk =>
      rw [(fix_parts hw hp hk).2.2]
      cases s <;> simp [Fmt.isFloat]
  unfold m_may_put m_is_mode m_mode_of m_holds
  rw [if_pos (isf_of_is i)]
  by_cases h0 : 0 ≤ how
  · rw [if_pos h0]
    by_cases h1 : how ≤ 15
    · rw [if_pos h1]
      have h2 : 0 ≤ how % 8 := by omega
      by_cases h3 : how % 8 ≤ 4
      · simp only [if_pos h2, decide_eq_true h3, if_true]
        by_cases h4 : m_kind_of f = 3
        · rw [if_neg (fun z => z h4), decide_eq_true_eq]
          have := k.mp h4
          constructor
          · intro z; exact ⟨h0, by omega, h3, fun _ => z⟩
          · intro z; exact z.2.2.2 this
        · rw [if_pos h4]
          constructor
          · intro _; exact ⟨h0, by omega, h3, fun z => absurd (k.mpr z) h4⟩
          · intro _; rfl
      · simp only [if_pos h2, decide_eq_false h3]
        constructor
        · intro z; simp at z
        · intro z; omega
    · rw [if_neg h1]
      constructor
      · intro z; cases z
      · intro z; omega
  · rw [if_neg h0]
    constructor
    · intro z; cases z
    · intro z; omega
theorem result_some {f how : Int} (h : m_may_put f how = true) : ∃ g, IsFmt f g ∧ 0 ≤ how ∧ how < 16 ∧ how % 8 ≤ 4 ∧ (g.isFloat = true → 8 ≤ how) ∧ ShNumSeed.result f how = some (g, ⟨(how % 8).toNat, (how / 8).toNat⟩) := by
  have hf : m_is_format f = true := by
    unfold m_may_put at h
    split at h
    · assumption
    · cases h
  obtain ⟨g, i⟩ := is_of_isf hf
  obtain ⟨h0, h1, h2, h3⟩ := (may_iff i).mp h
  refine ⟨g, i, h0, h1, h2, h3, ?_⟩
  unfold ShNumSeed.result
  rw [fmt_of_is i, Option.bind_some, if_pos]
  rw [Bool.and_eq_true, Bool.and_eq_true, Bool.and_eq_true, Bool.or_eq_true, decide_eq_true_eq, decide_eq_true_eq, decide_eq_true_eq]
  refine ⟨h0, h1, h2, ?_⟩
  by_cases c : g.isFloat = true
  · right
    have := h3 c
    rw [beq_iff_eq]; omega
  · left; simpa using c
theorem result_none {f how : Int} (h : ¬ m_may_put f how = true) : ShNumSeed.result f how = none := by
  unfold ShNumSeed.result
  by_cases hf : m_is_format f = true
  · obtain ⟨g, i⟩ := is_of_isf hf
    rw [fmt_of_is i, Option.bind_some, if_neg]
    intro z
    rw [Bool.and_eq_true, Bool.and_eq_true, Bool.and_eq_true, Bool.or_eq_true, decide_eq_true_eq, decide_eq_true_eq, decide_eq_true_eq] at z
    obtain ⟨z0, z1, z2, z3⟩ := z
    refine h ((may_iff i).mpr ⟨z0, z1, z2, fun c => ?_⟩)
    rcases z3 with z3 | z3
    · rw [c] at z3; cases z3
    · rw [beq_iff_eq] at z3; omega
  · rw [fmt_none hf]; rfl
theorem put_fixed_is {w p : Nat} {s : Bool} {f how t b : Int} (hw : w = 8 ∨ w = 16 ∨ w = 32 ∨ w = 64) (hp : p ≤ w) (hk : f = (if s = true then 65536 else 131072) + w * 256 + p) (hb : 0 < b) (h0 : 0 ≤ how) (h1 : how < 16) :
    m_put_fixed t b f how = (((My.putFix w p s (how % 8).toNat (how / 8).toNat t b).2 : Int), ((My.putFix w p s (how % 8).toNat (how / 8).toNat t b).1 : Int)) := by
  obtain ⟨ew, ep, ek⟩ := fix_parts hw hp hk
  obtain ⟨l1, l2, l3, l4⟩ := fix_ends hw hp hk
  have hm : m_mode_of how = (((how % 8).toNat : Nat) : Int) := by unfold m_mode_of; omega
  obtain ⟨r1, r2, r3, r4⟩ := round_is (t := t) (place := -(p : Int)) hb (how % 8).toNat
  rw [show (- -(p : Int)).toNat = p by omega, show (-(p : Int)).toNat = 0 by omega, Int.pow_zero, Int.mul_one] at r1 r2 r3 r4
  rw [put_fixed_nice, ep, hm, ← r1, l1, l2, ew, Int.one_mul, Int.toNat_natCast]
  unfold My.putFix
  dsimp only
  have hlo : My.fixLo w s ≤ 0 := by
    have := My.pow2_pos (w - 1)
    unfold My.fixLo; split <;> omega
  have hhi : 0 ≤ My.fixHi w s := by
    have := My.pow2_pos (w - 1)
    have := My.pow2_pos w
    unfold My.fixHi; split <;> omega
  have sg : (t < 0 → My.wholeI (how % 8).toNat (t * 2 ^ p) b ≤ 0) ∧ (¬ t < 0 → 0 ≤ My.wholeI (how % 8).toNat (t * 2 ^ p) b) := by
    constructor
    · intro c; rw [r1, if_pos c]; omega
    · intro c; rw [r1, if_neg c]; omega
  generalize My.wholeI (how % 8).toNat (t * 2 ^ p) b = k at *
  have hmod : ((k % 2 ^ w).toNat : Int) = k % 2 ^ w := by
    have := Int.emod_nonneg k (show (2 : Int) ^ w ≠ 0 from Int.ne_of_gt (My.pow2_pos w))
    omega
  have fl : ((if m_is_whole (m_quarters t b (-(p : Int))) = true then 0 else 1 : Int)) = (((if (t * 2 ^ p) % b = 0 then 0 else 1 : Nat)) : Int) := by
    by_cases c : (t * 2 ^ p) % b = 0
    · rw [if_pos (r2.mpr c), if_pos c]; rfl
    · rw [if_neg (fun z => c (r2.mp z)), if_neg c]; rfl
  have fl4 : (((if (t * 2 ^ p) % b = 0 then 0 else 1 : Nat) ||| 4 : Nat) : Int) = (((if (t * 2 ^ p) % b = 0 then 0 else 1 : Nat)) : Int) + 4 := by
    by_cases c : (t * 2 ^ p) % b = 0
    · rw [if_pos c]; rfl
    · rw [if_neg c]; rfl
  rw [fl]
  by_cases c1 : My.fixLo w s ≤ k ∧ k ≤ My.fixHi w s
  · rw [if_pos c1, if_pos c1]
    dsimp only
    rw [hmod]
  · rw [if_neg c1, if_neg c1]
    have hh : m_holds how = true ↔ ¬ (how / 8).toNat = 0 := by unfold m_holds; rw [decide_eq_true_eq]; omega
    by_cases c2 : m_holds how = true
    · rw [if_pos c2, if_neg (hh.mp c2)]
      unfold m_end_raw
      by_cases c3 : k < My.fixLo w s
      · have : t < 0 := Decidable.byContradiction fun z => by have := sg.2 z; omega
        rw [if_pos c3, decide_eq_true this, if_pos rfl, l3]
        rfl
      · have : ¬ t < 0 := fun z => by have := sg.1 z; omega
        rw [if_neg c3, decide_eq_false this, if_neg (by decide), l4]
        rfl
    · rw [if_neg c2, if_pos (Decidable.byContradiction fun z => c2 (hh.mpr z))]
      dsimp only
      rw [hmod, fl4]
theorem lead_is {t b : Int} (hb : 0 < b) (ht : t ≠ 0) : b * 2 ^ (m_leading_place t b).toNat ≤ (t.natAbs : Int) * 2 ^ (-(m_leading_place t b)).toNat ∧ (t.natAbs : Int) * 2 ^ (-(m_leading_place t b + 1)).toNat < b * 2 ^ (m_leading_place t b + 1).toNat := by
  have hT : 0 < (t.natAbs : Int) := by omega
  obtain ⟨l, h1, h2, h3⟩ := My.log2_q_exists hb hT
  have h4 := My.log2_lens hb hT
  rw [← h3, show ((t.natAbs : Int)).natAbs = t.natAbs from Int.natAbs_natCast _] at h4
  have p0 : bitsI (absI t) - bitsI b = (t.natAbs.log2 : Int) - (b.natAbs.log2 : Int) := by
    unfold bitsI
    rw [absI_natAbs, if_neg (by omega), if_neg (by omega), Int.natAbs_natCast]
    omega
  have e : m_leading_place t b = l := by
    unfold m_leading_place
    rw [p0, in_steps_eq]
    dsimp only
    generalize (t.natAbs.log2 : Int) - (b.natAbs.log2 : Int) = P at *
    by_cases c : b * 2 ^ P.toNat ≤ (t.natAbs : Int) * 2 ^ (-P).toNat
    · rw [if_pos c]
      rcases h4 with h | h
      · exact h.symm
      · rw [show l + 1 = P by omega] at h2
        omega
    · rw [if_neg c]
      rcases h4 with h | h
      · rw [h] at h1; exact absurd h1 c
      · omega
  rw [e]
  exact ⟨h1, h2⟩
theorem put_float_is {m M B : Nat} {f mode t b : Int} (k : Nat) (hk : mode = (k : Int)) (hM : 1 ≤ M) (d1 : dictI [(32, 23), (64, 52)] (m_width_of f) = (m : Int)) (d2 : dictI [(32, 149), (64, 1074)] (m_width_of f) = (M : Int) + (m : Int) - 1)
    (d3 : m_greatest_raw f = (My.greatest m M : Int)) (d4 : m_least_raw f = ((2 ^ (B - 1) + My.greatest m M : Nat) : Int)) (d5 : m_sign_bit f = ((2 ^ (B - 1) : Nat) : Int)) (hb : 0 < b) :
    m_put_float t b f mode = (((My.putF m M B k ((t : Rat) / b)).2 : Int), ((My.putF m M B k ((t : Rat) / b)).1 : Int)) := by
  subst hk
  by_cases t0 : t = 0
  · subst t0
    have z : (((0 : Int) : Rat) / b) = 0 := (My.qeq0 hb).mpr rfl
    unfold m_put_float
    rw [if_pos rfl, z, My.putF_zero]
    rfl
  obtain ⟨h1, h2⟩ := lead_is hb t0
  generalize hl : m_leading_place t b = l at *
  obtain ⟨e, he⟩ : ∃ e : Int, e = max l (1 - (M : Int)) := ⟨_, rfl⟩
  have hP : maxI (l - (m : Int)) (-((M : Int) + (m : Int) - 1)) = e - (m : Int) := by
    unfold maxI
    split <;> omega
  obtain ⟨r1, r2, r3, r4⟩ := round_is (t := t) (place := e - (m : Int)) hb k
  rw [My.putF_int hM hb t0 h1 h2 he rfl]
  unfold m_put_float
  rw [if_neg t0, hl, d1, d2, hP, d3]
  have hR : e - (m : Int) = -((M : Int) + (m : Int) - 1) ∨ 1 ≤ m_rounded (m_quarters t b (e - (m : Int))) (k : Int) (decide (t < 0)) := by
    by_cases c : l ≤ 1 - (M : Int)
    · left; omega
    · right
      have el : e = l := by omega
      refine Int.le_trans ?_ r3
      have hD : 0 < b * 2 ^ (e - (m : Int)).toNat := Int.mul_pos hb (My.pow2_pos _)
      refine Int.le_ediv_of_mul_le hD ?_
      rw [Int.one_mul, el]
      -- b 2^(l - m) is no more than |t| 2^-(l - m), as b 2^l is no more than |t| 2^-l
      by_cases c2 : 0 ≤ l - (m : Int)
      · have : (2 : Int) ^ (l - (m : Int)).toNat ≤ 2 ^ l.toNat := by
          have e2 : l.toNat = (l - (m : Int)).toNat + m := by omega
          rw [e2, Int.pow_add]
          have := My.pow2_pos m
          have := My.pow2_pos (l - (m : Int)).toNat
          exact le_mul_one (by omega) (by omega)
        have h3 := Int.mul_le_mul_of_nonneg_left this (Int.le_of_lt hb)
        rw [show (-(l - (m : Int))).toNat = 0 by omega]
        rw [show (-l).toNat = 0 by omega] at h1
        omega
      · rw [show (l - (m : Int)).toNat = 0 by omega, Int.pow_zero, Int.mul_one]
        have h3 : b ≤ b * 2 ^ l.toNat := le_mul_one (by omega) (by have := My.pow2_pos l.toNat; omega)
        have h4 : (2 : Int) ^ (-l).toNat ≤ 2 ^ (-(l - (m : Int))).toNat := by
          rw [show (-(l - (m : Int))).toNat = (-l).toNat + ((-(l - (m : Int))).toNat - (-l).toNat) by omega, Int.pow_add]
          have := My.pow2_pos (-l).toNat
          have := My.pow2_pos ((-(l - (m : Int))).toNat - (-l).toNat)
          exact le_mul_one (by omega) (by omega)
        have h5 := Int.mul_le_mul_of_nonneg_left h4 (show (0 : Int) ≤ (t.natAbs : Int) by omega)
        omega
  rw [r1]
  have i1 : (((if (t * 2 ^ (-(e - (m : Int))).toNat) % (b * 2 ^ (e - (m : Int)).toNat) = 0 then 0 else 1 : Nat)) : Int) = (if m_is_whole (m_quarters t b (e - (m : Int))) = true then 0 else 1) := by
    by_cases c : (t * 2 ^ (-(e - (m : Int))).toNat) % (b * 2 ^ (e - (m : Int)).toNat) = 0
    · rw [if_pos c, if_pos (r2.mpr c)]; rfl
    · rw [if_neg c, if_neg (fun z => c (r2.mp z))]; rfl
  have hR0 : 0 ≤ m_rounded (m_quarters t b (e - (m : Int))) (k : Int) (decide (t < 0)) := by omega
  generalize m_rounded (m_quarters t b (e - (m : Int))) (k : Int) (decide (t < 0)) = R at *
  have na : (if t < 0 then -R else R).natAbs = R.toNat := by split <;> omega
  have x1 : (e - (m : Int) - -((M : Int) + (m : Int) - 1)) * 2 ^ ((m : Int)).toNat = (((e + (M : Int) - 1).toNat * 2 ^ m : Nat) : Int) := by
    rw [Int.toNat_natCast, Int.natCast_mul, Int.natCast_pow, show (((e + (M : Int) - 1).toNat : Nat) : Int) = e - (m : Int) - -((M : Int) + (m : Int) - 1) by omega]
    rfl
  rw [x1, na]
  generalize hY : (e + (M : Int) - 1).toNat * 2 ^ m = Y at *
  have hz : e - (m : Int) = -((M : Int) + (m : Int) - 1) → Y = 0 := by
    intro z
    rw [← hY, show (e + (M : Int) - 1).toNat = 0 by omega, Nat.zero_mul]
  have d3' := d3
  by_cases c1 : R.toNat + Y ≤ My.greatest m M
  · rw [if_neg (by omega), if_pos c1]
    unfold My.rawOf
    rw [hY]
    dsimp only
    rw [i1]
    by_cases c2 : t < 0
    · rw [if_pos c2, if_pos c2]
      by_cases c3 : 0 < R + (Y : Int)
      · have hRp : 0 < R := by
          rcases hR with h | h
          · have := hz h; omega
          · omega
        rw [if_pos c3, decide_eq_true (show -R < 0 by omega), if_pos rfl, d5]
        by_cases c4 : m_is_whole (m_quarters t b (e - (m : Int))) = true
        · rw [if_pos c4, if_pos c4]; refine Prod.ext rfl ?_; dsimp only; omega
        · rw [if_neg c4, if_neg c4]; refine Prod.ext rfl ?_; dsimp only; omega
      · rw [if_neg c3, decide_eq_false (show ¬ -R < 0 by omega), if_neg (show ¬ false = true by decide)]
        by_cases c4 : m_is_whole (m_quarters t b (e - (m : Int))) = true
        · rw [if_pos c4, if_pos c4]; refine Prod.ext rfl ?_; dsimp only; omega
        · rw [if_neg c4, if_neg c4]; refine Prod.ext rfl ?_; dsimp only; omega
    · rw [if_neg c2, if_neg c2, decide_eq_false (show ¬ R < 0 by omega), if_neg (show ¬ false = true by decide)]
      by_cases c4 : m_is_whole (m_quarters t b (e - (m : Int))) = true
      · rw [if_pos c4, if_pos c4]; refine Prod.ext rfl ?_; dsimp only; omega
      · rw [if_neg c4, if_neg c4]; refine Prod.ext rfl ?_; dsimp only; omega
  · rw [if_pos (by omega), if_neg c1]
    have hRp : 0 < R := by
      rcases hR with h | h
      · have := hz h; omega
      · omega
    unfold m_end_raw
    by_cases c2 : t < 0
    · rw [if_pos c2, if_pos (show -R < 0 by omega), decide_eq_true c2, if_pos rfl, d4]
      rfl
    · rw [if_neg c2, if_neg (show ¬ R < 0 by omega), decide_eq_false c2, if_neg (by decide), d3]
      refine Prod.ext rfl ?_
      dsimp only
      omega
theorem put_is {f how t b : Int} {g : Fmt} (i : IsFmt f g) (hb : 0 < b) (h0 : 0 ≤ how) (h1 : how < 16) :
    m_put_ratio t b f how = (((Sh.put g ⟨(how % 8).toNat, (how / 8).toNat⟩ ((t : Rat) / b)).2 : Int), ((Sh.put g ⟨(how % 8).toNat, (how / 8).toNat⟩ ((t : Rat) / b)).1 : Int)) := by
  have hm : m_mode_of how = (((how % 8).toNat : Nat) : Int) := by unfold m_mode_of; omega
  unfold m_put_ratio
  cases i with
  | truth =>
    rw [show m_kind_of 2048 = 0 by decide, if_pos rfl]
    show _ = (((0 : Nat) : Int), (((if (t : Rat) / b = 0 then 0 else 1 : Nat)) : Int))
    by_cases c : t = 0
    · rw [if_pos c, if_pos ((My.qeq0 hb).mpr c)]; rfl
    · rw [if_neg c, if_neg (fun z => c ((My.qeq0 hb).mp z))]; rfl
  | f32 =>
    rw [show m_kind_of 204800 = 3 by decide, if_neg (by decide), if_pos rfl, My.put32]
    exact put_float_is (m := 23) (M := 127) (B := 32) _ hm (by decide) (by decide) (by decide) (by decide) (by decide) (by decide) hb
  | f64 =>
    rw [show m_kind_of 212992 = 3 by decide, if_neg (by decide), if_pos rfl, My.put64]
    exact put_float_is (m := 52) (M := 1023) (B := 64) _ hm (by decide) (by decide) (by decide) (by decide) (by decide) (by decide) hb
  | @fix _ w p s hw hp hk =>
    obtain ⟨ew, ep, ek⟩ := fix_parts hw hp hk
    rw [ek, if_neg (by cases s <;> decide), if_neg (by cases s <;> decide), My.put_fix w p s _ hb]
    exact put_fixed_is hw hp hk hb h0 h1
noncomputable def Val (p : Int × Int) (q : Rat) : Prop := 0 < p.2 ∧ (p.1 : Rat) / (p.2 : Rat) = q
theorem ediv_le_abs {a b : Int} (hb : 0 < b) (ha : 0 ≤ a) : (a / b).natAbs ≤ a.natAbs := by
  have h1 : a / b ≤ a := Int.ediv_le_self b ha
  have h2 : 0 ≤ a / b := Int.ediv_nonneg ha (by omega)
  omega
theorem put_val {f how : Int} {g : Fmt} {x : Int × Int} {q : Rat} (i : IsFmt f g) (hx : Val x q) (h0 : 0 ≤ how) (h1 : how < 16) :
    m_put_ratio x.1 x.2 f how = (((Sh.put g ⟨(how % 8).toNat, (how / 8).toNat⟩ q).2 : Int), ((Sh.put g ⟨(how % 8).toNat, (how / 8).toNat⟩ q).1 : Int)) := by
  rw [put_is i hx.1 h0 h1, hx.2]
noncomputable def RB (t b : Int) : Prop := 0 < b ∧ Sz 8000 b ∧ Sz 8000 t
theorem point_lt (c : Int) : m_point_of c < 256 := by unfold m_point_of; omega
theorem point_nn (c : Int) : 0 ≤ m_point_of c := by unfold m_point_of; omega
theorem one_pos (n : Nat) : (0 : Int) < 1 * 2 ^ n := by rw [Int.one_mul]; exact My.pow2_pos n
theorem may_fmt {f how : Int} (h : m_may_put f how = true) : m_is_format f = true := by
  unfold m_may_put at h
  split at h
  · assumption
  · cases h
theorem fbits {c : Int} (W : m_width_of c = 32 ∨ m_width_of c = 64) : 0 ≤ dictI [(32, 23), (64, 52)] (m_width_of c) ∧ dictI [(32, 23), (64, 52)] (m_width_of c) ≤ 52 := by
  rcases W with h | h <;> rw [h] <;> decide
theorem lplaces {c : Int} (W : m_width_of c = 32 ∨ m_width_of c = 64) : 0 ≤ dictI [(32, 149), (64, 1074)] (m_width_of c) ∧ dictI [(32, 149), (64, 1074)] (m_width_of c) ≤ 1074 := by
  rcases W with h | h <;> rw [h] <;> decide
theorem steps_sz {t b place : Int} (h : RB t b) (p1 : -20000 ≤ place) (p2 : place ≤ 20000) : Sz 28000 (m_in_steps t b place).1 ∧ Sz 28000 (m_in_steps t b place).2 ∧ 0 < (m_in_steps t b place).2 ∧ 0 ≤ (m_in_steps t b place).1 := by
  rw [in_steps_eq]
  have a : Sz 8000 ((t.natAbs : Int)) := by have := h.2.2; unfold Sz at *; rw [Int.natAbs_natCast]; exact this
  exact ⟨(a.shl (n := 20000) (by omega)).mono (by decide), (h.2.1.shl (n := 20000) (by omega)).mono (by decide), Int.mul_pos h.1 (My.pow2_pos _), Int.mul_nonneg (by omega) (Int.le_of_lt (My.pow2_pos _))⟩
theorem halves_sz {t b place : Int} (h : RB t b) (p1 : -20000 ≤ place) (p2 : place ≤ 20000) : Sz 28002 (2 * (m_in_steps t b place).1 / (m_in_steps t b place).2) := by
  obtain ⟨s1, s2, s3, s4⟩ := steps_sz h p1 p2
  exact (Sz.mul (m := 2) (by decide) s1).of_le (ediv_le_abs s3 (by omega)) |>.mono (by decide)
theorem lead_bounds {t b : Int} (h : RB t b) : -8001 ≤ m_leading_place t b ∧ m_leading_place t b ≤ 8000 := by
  have h1 := h.2.2.abs.bitsI
  have h2 := h.2.1.bitsI
  unfold m_leading_place
  split <;> omega
theorem lead_pre {t b : Int} (h : RB t b) : -20000 ≤ bitsI (absI t) - bitsI b ∧ bitsI (absI t) - bitsI b ≤ 20000 := by
  have h1 := h.2.2.abs.bitsI
  have h2 := h.2.1.bitsI
  omega
theorem float_place {t b F L : Int} (h : RB t b) (t0 : ¬ t = 0) (f0 : 0 ≤ F) (f1 : F ≤ 52) (l0 : 0 ≤ L) (l1 : L ≤ 1074) :
    -20000 ≤ maxI (m_leading_place t b - F) (-L) ∧ maxI (m_leading_place t b - F) (-L) ≤ 20000 ∧ Sz 9000 (b * 2 ^ (maxI (m_leading_place t b - F) (-L)).toNat) ∧ -L ≤ maxI (m_leading_place t b - F) (-L) := by
  have hb := lead_bounds h
  have e : maxI (m_leading_place t b - F) (-L) = max (m_leading_place t b - F) (-L) := by
    unfold maxI; split <;> omega
  rw [e]
  refine ⟨by omega, by omega, ?_, by omega⟩
  obtain ⟨h1, h2⟩ := lead_is h.1 t0
  generalize m_leading_place t b = l at *
  by_cases c : 0 ≤ max (l - F) (-L)
  · have c2 : max (l - F) (-L) ≤ l ∨ max (l - F) (-L) = 0 := by omega
    rcases c2 with c2 | c2
    · have l0 : 0 ≤ l := by omega
      have p := My.pow2_pos (max (l - F) (-L)).toNat
      have q : (2 : Int) ^ (max (l - F) (-L)).toNat ≤ 2 ^ l.toNat := by
        rw [show l.toNat = (max (l - F) (-L)).toNat + (l.toNat - (max (l - F) (-L)).toNat) by omega, Int.pow_add]
        exact le_mul_one (by omega) (by have := My.pow2_pos (l.toNat - (max (l - F) (-L)).toNat); omega)
      have r := Int.mul_le_mul_of_nonneg_left q (Int.le_of_lt h.1)
      have s := Int.mul_pos h.1 p
      rw [show (-l).toNat = 0 by omega] at h1
      refine Sz.mono (h.2.2.of_le (i := b * 2 ^ (max (l - F) (-L)).toNat) ?_) (by decide)
      omega
    · rw [c2]
      exact Sz.mono (m := 8000) (by have := h.2.1; unfold Sz at *; simpa using this) (by decide)
  · rw [show (max (l - F) (-L)).toNat = 0 by omega]
    exact Sz.mono (m := 8000) (by have := h.2.1; unfold Sz at *; simpa using this) (by decide)
theorem fix_place {b : Int} (c : Int) (h : Sz 8000 b) : Sz 9000 (b * 2 ^ (-(m_point_of c)).toNat) := by
  have := point_nn c
  rw [show (-(m_point_of c)).toNat = 0 by omega]
  exact Sz.mono (m := 8000) (by unfold Sz at *; simpa using h) (by decide)
theorem ten_sz {e : Nat} (h : e ≤ 2000) : Sz 8000 ((10 : Int) ^ e) := by
  unfold Sz
  rw [Int.natAbs_pow]
  show 10 ^ e < 2 ^ 8000
  have h1 : (10 : Nat) ^ e ≤ 16 ^ e := Nat.pow_le_pow_left (by decide) e
  have h2 : (16 : Nat) ^ e = 2 ^ (4 * e) := by rw [Nat.pow_mul]
  have h3 : (10 : Nat) ^ e < 2 ^ 8000 ∨ e = 2000 := by
    by_cases c : e = 2000
    · exact .inr c
    · left
      rw [h2] at h1
      exact Nat.lt_of_le_of_lt h1 (Nat.pow_lt_pow_right (by decide) (by omega))
  rcases h3 with h3 | h3
  · exact h3
  · subst h3
    have : (10 : Nat) ^ 2000 < 16 ^ 2000 := Nat.pow_lt_pow_left (by decide) (by decide)
    rw [h2] at this
    exact this
theorem num_sz {d : List UInt8} (h : d.all Sh.isDigit = true) (hl : d.length ≤ 40) : Sz 2000 ((Sh.numberOf d : Nat) : Int) := by
  unfold Sz
  rw [Int.natAbs_natCast]
  exact Nat.lt_of_lt_of_le (My.numberOf_lt d h) (Nat.le_trans (Nat.pow_le_pow_right (by decide) hl) (Nat.le_trans (show 10 ^ 40 ≤ 2 ^ 200 by decide) (Nat.pow_le_pow_right (by decide) (by decide))))
theorem num_sz2 {d : List UInt8} (h : d.all Sh.isDigit = true) (hl : d.length ≤ 40) : Sz 200 ((Sh.numberOf d : Nat) : Int) := by
  unfold Sz
  rw [Int.natAbs_natCast]
  exact Nat.lt_of_lt_of_le (My.numberOf_lt d h) (Nat.le_trans (Nat.pow_le_pow_right (by decide) hl) (show 10 ^ 40 ≤ 2 ^ 200 by decide))
theorem ten_is (n e : Int) : m_times_ten_to n e = My.tenR n e := by
  unfold m_times_ten_to My.tenR m_power_of_ten
  split <;> rfl
theorem ten_sz3 {e : Nat} (h : e ≤ 1100) : Sz 4401 ((10 : Int) ^ e) := by
  unfold Sz
  rw [Int.natAbs_pow]
  show 10 ^ e < 2 ^ 4401
  have h1 : (10 : Nat) ^ e ≤ 16 ^ e := Nat.pow_le_pow_left (by decide) e
  have h2 : (16 : Nat) ^ e = 2 ^ (4 * e) := by rw [Nat.pow_mul]
  rw [h2] at h1
  exact Nat.lt_of_le_of_lt h1 (Nat.pow_lt_pow_right (by decide) (by omega))
theorem tenR_sz {n e : Int} (h : Sz 200 n) (h1 : -1100 ≤ e) (h2 : e ≤ 1100) : Sz 8000 (My.tenR n e).1 ∧ Sz 8000 (My.tenR n e).2 := by
  unfold My.tenR
  split
  · exact ⟨h.mono (by decide), (ten_sz3 (by omega)).mono (by decide)⟩
  · exact ⟨(h.mul (ten_sz3 (e := e.toNat) (by omega))).mono (by decide), Sz.mono (m := 1) (n := 8000) (i := 1) (by decide) (by decide)⟩
theorem tail_sz {t a b : List UInt8} {p r p' r' : Nat} {x : Int × Int} (ha : a.all Sh.isDigit = true) (hb : b.all Sh.isDigit = true) (hl : a.length + b.length ≤ 40) (h : My.rTail t a b p r = .ok x p' r') : Sz 8000 x.1 ∧ Sz 8000 x.2 := by
  unfold My.rTail at h
  cases e : My.rExp t p r with
  | bad q => rw [e] at h; cases h
  | ok n p2 r2 =>
    rw [e] at h
    cases h
    have bd := My.rExp_bd e
    exact tenR_sz (num_sz2 (by rw [List.all_append, ha, hb]; rfl) (by rw [List.length_append]; exact hl)) (by omega) (by omega)
theorem size_sz {t : List UInt8} {p p' r' : Nat} {x : Int × Int} (h : My.rSize t p 40 = .ok x p' r') : Sz 8000 x.1 ∧ Sz 8000 x.2 := by
  unfold My.rSize at h
  cases e : My.rDigits t p 40 with
  | bad q => rw [e] at h; cases h
  | ok a p1 r1 =>
    rw [e] at h
    dsimp only at h
    obtain ⟨xa, _, xr, al, _⟩ := My.rDigits_ok e
    have da : a.all Sh.isDigit = true := by rw [xa]; exact My.dgs_all _ _
    split at h
    · cases e2 : My.rDivisor t (p1 + 1) r1 with
      | bad q => rw [e2] at h; cases h
      | ok n p2 r2 =>
        rw [e2] at h
        cases h
        refine ⟨(num_sz2 da al).mono (by decide), ?_⟩
        unfold My.rDivisor at e2
        split at e2
        · cases e2
        · cases e3 : My.rDigits t (p1 + 1 + My.zrs t (p1 + 1)) (r1 - My.zrs t (p1 + 1)) with
          | bad q => rw [e3] at e2; cases e2
          | ok d p3 r3 =>
            rw [e3] at e2
            cases e2
            obtain ⟨xd, _, _, dl, _⟩ := My.rDigits_ok e3
            exact (num_sz2 (by rw [xd]; exact My.dgs_all _ _) (by omega)).mono (by decide)
    · split at h
      · cases e2 : My.rDigits t (p1 + 1) r1 with
        | bad q => rw [e2] at h; cases h
        | ok b p2 r2 =>
          rw [e2] at h
          dsimp only at h
          obtain ⟨xb, _, _, bl, _⟩ := My.rDigits_ok e2
          exact tail_sz da (by rw [xb]; exact My.dgs_all _ _) (by omega) h
      · exact tail_sz da rfl (by simpa using al) h
theorem read_rb {t : List UInt8} {p r : Nat} {x : Int × Int} (h : My.rNumber t = .ok x p r) : RB x.1 x.2 := by
  have h0 := ((My.number_spec t).2 x p r h).1
  unfold My.rNumber at h
  cases e : My.rSize t (if t[0]? = some 45 then 1 else 0) 40 with
  | bad q => rw [e] at h; cases h
  | ok y p1 r1 =>
    rw [e] at h
    dsimp only at h
    obtain ⟨z1, z2⟩ := size_sz e
    split at h
    · cases h
    · cases h
      refine ⟨h0, ?_, ?_⟩
      · split
        · exact z2
        · exact z2
      · split
        · exact z1.neg
        · exact z1
noncomputable def m_read (f how : Int) (t : List UInt8) : List Int := if m_may_put f how = true ∧ t.length ≤ 64 then (match My.rNumber t with | .bad q => [-6, (q : Int)] | .ok x _ _ => [0, (m_put_ratio x.1 x.2 f how).1, (m_put_ratio x.1 x.2 f how).2]) else [-1]
theorem bytes_back (text : List Int) (h : ∀ z ∈ text, 0 ≤ z ∧ z ≤ 255) : (NumNeutral.bytesOf text).map (fun c => ((c.toNat : Nat) : Int)) = text := by
  unfold NumNeutral.bytesOf
  rw [List.map_map]
  conv => rhs; rw [← List.map_id text]
  refine List.map_congr_left fun z hz => ?_
  have := h z hz
  show (((UInt8.ofNat z.toNat).toNat : Nat) : Int) = z
  rw [UInt8.toNat_ofNat', Nat.mod_eq_of_lt (by omega)]
  omega
theorem read_eq (f how : Int) (text : List Int) : m_read f how (NumNeutral.bytesOf text) = PyWqadbl.read f how text := by
  show _ = ShNumSeed.answer (.read f how (NumNeutral.bytesOf text))
  unfold m_read ShNumSeed.answer ShNumSeed.into
  dsimp only
  generalize NumNeutral.bytesOf text = t
  have TX : ShNumSeed.TEXT = 64 := rfl
  rw [TX]
  by_cases g : m_may_put f how = true
  · obtain ⟨G, i, h0, h1, _, _, e⟩ := result_some g
    rw [e]
    dsimp only
    by_cases c : t.length ≤ 64
    · rw [if_pos ⟨g, c⟩, if_neg (by omega)]
      cases q : My.rNumber t with
      | bad q' =>
        obtain ⟨n1, n2⟩ := My.number_bad q
        rw [n1, n2]
      | ok x p r =>
        obtain ⟨n1, n2⟩ := (My.number_spec t).2 x p r q
        rw [n2]
        dsimp only
        rw [put_val i (x := x) ⟨n1, rfl⟩ h0 h1]
        rfl
    · rw [if_neg (fun z => c z.2), if_pos (by omega)]
      rfl
  · rw [if_neg (fun z => g z.1), result_none g]
    rfl

end Py

namespace Py
open PySem PySem.Spec PyProof.Rows L2 TL
open PySem.W (Codec)
open Sh (Fmt How)
noncomputable def top (i : Nat) : Stmt := PySem.Challenge.pw_exactraws_s14_read.main.body.getD i (.Pass ⟨0, 0, 0, 0⟩)
noncomputable abbrev s_kind_of : Stmt := top 11
theorem sc_kind_of : FnScope ["c"] ["c"] (defScope s_kind_of) := ⟨rfl, rfl, rfl, by decide +kernel, rfl, by decide +kernel, by decide +kernel⟩
noncomputable abbrev s_width_of : Stmt := top 12
theorem sc_width_of : FnScope ["c"] ["c"] (defScope s_width_of) := ⟨rfl, rfl, rfl, by decide +kernel, rfl, by decide +kernel, by decide +kernel⟩
noncomputable abbrev s_point_of : Stmt := top 13
theorem sc_point_of : FnScope ["c"] ["c"] (defScope s_point_of) := ⟨rfl, rfl, rfl, by decide +kernel, rfl, by decide +kernel, by decide +kernel⟩
noncomputable abbrev s_is_format : Stmt := top 14
theorem sc_is_format : FnScope ["c"] ["c"] (defScope s_is_format) := ⟨rfl, rfl, rfl, by decide +kernel, rfl, by decide +kernel, by decide +kernel⟩
noncomputable abbrev s_sign_bit : Stmt := top 15
theorem sc_sign_bit : FnScope ["c"] ["c"] (defScope s_sign_bit) := ⟨rfl, rfl, rfl, by decide +kernel, rfl, by decide +kernel, by decide +kernel⟩
noncomputable abbrev s_infinity_raw : Stmt := top 16
theorem sc_infinity_raw : FnScope ["c"] ["c"] (defScope s_infinity_raw) := ⟨rfl, rfl, rfl, by decide +kernel, rfl, by decide +kernel, by decide +kernel⟩
noncomputable abbrev s_greatest_raw : Stmt := top 17
theorem sc_greatest_raw : FnScope ["c", "kind"] ["c"] (defScope s_greatest_raw) := ⟨rfl, rfl, rfl, by decide +kernel, rfl, by decide +kernel, by decide +kernel⟩
noncomputable abbrev s_least_raw : Stmt := top 18
theorem sc_least_raw : FnScope ["c", "kind"] ["c"] (defScope s_least_raw) := ⟨rfl, rfl, rfl, by decide +kernel, rfl, by decide +kernel, by decide +kernel⟩
noncomputable abbrev s_digits_from : Stmt := top 21
theorem sc_digits_from : FnScope ["text", "start", "stop"] ["text", "start"] (defScope s_digits_from) := ⟨rfl, rfl, rfl, by decide +kernel, rfl, by decide +kernel, by decide +kernel⟩
noncomputable abbrev s_number_of : Stmt := top 22
theorem sc_number_of : FnScope ["digits", "number", "digit"] ["digits"] (defScope s_number_of) := ⟨rfl, rfl, rfl, by decide +kernel, rfl, by decide +kernel, by decide +kernel⟩
noncomputable abbrev s_power_of_ten : Stmt := top 25
theorem sc_power_of_ten : FnScope ["exponent", "power", "square"] ["exponent"] (defScope s_power_of_ten) := ⟨rfl, rfl, rfl, by decide +kernel, rfl, by decide +kernel, by decide +kernel⟩
noncomputable abbrev s_stands_here : Stmt := top 35
theorem sc_stands_here : FnScope ["scan", "byte"] ["scan", "byte"] (defScope s_stands_here) := ⟨rfl, rfl, rfl, by decide +kernel, rfl, by decide +kernel, by decide +kernel⟩
noncomputable abbrev s_passes : Stmt := top 36
theorem sc_passes : FnScope ["scan", "byte"] ["scan", "byte"] (defScope s_passes) := ⟨rfl, rfl, rfl, by decide +kernel, rfl, by decide +kernel, by decide +kernel⟩
noncomputable abbrev s_passes_before_digit : Stmt := top 37
theorem sc_passes_before_digit : FnScope ["scan", "byte"] ["scan", "byte"] (defScope s_passes_before_digit) := ⟨rfl, rfl, rfl, by decide +kernel, rfl, by decide +kernel, by decide +kernel⟩
noncomputable abbrev s_read_digits : Stmt := top 38
theorem sc_read_digits : FnScope ["scan", "digits"] ["scan"] (defScope s_read_digits) := ⟨rfl, rfl, rfl, by decide +kernel, rfl, by decide +kernel, by decide +kernel⟩
noncomputable abbrev s_read_divisor : Stmt := top 39
theorem sc_read_divisor : FnScope ["scan"] ["scan"] (defScope s_read_divisor) := ⟨rfl, rfl, rfl, by decide +kernel, rfl, by decide +kernel, by decide +kernel⟩
noncomputable abbrev s_read_exponent : Stmt := top 40
theorem sc_read_exponent : FnScope ["scan", "below", "digits"] ["scan"] (defScope s_read_exponent) := ⟨rfl, rfl, rfl, by decide +kernel, rfl, by decide +kernel, by decide +kernel⟩
noncomputable abbrev s_times_ten_to : Stmt := top 41
theorem sc_times_ten_to : FnScope ["number", "exponent"] ["number", "exponent"] (defScope s_times_ten_to) := ⟨rfl, rfl, rfl, by decide +kernel, rfl, by decide +kernel, by decide +kernel⟩
noncomputable abbrev s_read_size : Stmt := top 42
theorem sc_read_size : FnScope ["scan", "digits", "behind"] ["scan"] (defScope s_read_size) := ⟨rfl, rfl, rfl, by decide +kernel, rfl, by decide +kernel, by decide +kernel⟩
noncomputable abbrev s_read_number : Stmt := top 43
theorem sc_read_number : FnScope ["text", "scan", "below", "size"] ["text"] (defScope s_read_number) := ⟨rfl, rfl, rfl, by decide +kernel, rfl, by decide +kernel, by decide +kernel⟩
noncomputable abbrev s_steps_of : Stmt := top 47
theorem sc_steps_of : FnScope ["c", "r"] ["c", "r"] (defScope s_steps_of) := ⟨rfl, rfl, rfl, by decide +kernel, rfl, by decide +kernel, by decide +kernel⟩
noncomputable abbrev s_is_mode : Stmt := top 54
theorem sc_is_mode : FnScope ["mode"] ["mode"] (defScope s_is_mode) := ⟨rfl, rfl, rfl, by decide +kernel, rfl, by decide +kernel, by decide +kernel⟩
noncomputable abbrev s_in_steps : Stmt := top 55
theorem sc_in_steps : FnScope ["x", "place"] ["x", "place"] (defScope s_in_steps) := ⟨rfl, rfl, rfl, by decide +kernel, rfl, by decide +kernel, by decide +kernel⟩
noncomputable abbrev s_leading_place : Stmt := top 56
theorem sc_leading_place : FnScope ["x", "place", "steps"] ["x"] (defScope s_leading_place) := ⟨rfl, rfl, rfl, by decide +kernel, rfl, by decide +kernel, by decide +kernel⟩
noncomputable abbrev s_quarters : Stmt := top 57
theorem sc_quarters : FnScope ["x", "place", "steps", "halves"] ["x", "place"] (defScope s_quarters) := ⟨rfl, rfl, rfl, by decide +kernel, rfl, by decide +kernel, by decide +kernel⟩
noncomputable abbrev s_is_whole : Stmt := top 58
theorem sc_is_whole : FnScope ["size"] ["size"] (defScope s_is_whole) := ⟨rfl, rfl, rfl, by decide +kernel, rfl, by decide +kernel, by decide +kernel⟩
noncomputable abbrev s_goes_far : Stmt := top 59
theorem sc_goes_far : FnScope ["size", "mode", "below"] ["size", "mode", "below"] (defScope s_goes_far) := ⟨rfl, rfl, rfl, by decide +kernel, rfl, by decide +kernel, by decide +kernel⟩
noncomputable abbrev s_rounded : Stmt := top 60
theorem sc_rounded : FnScope ["size", "mode", "below"] ["size", "mode", "below"] (defScope s_rounded) := ⟨rfl, rfl, rfl, by decide +kernel, rfl, by decide +kernel, by decide +kernel⟩
noncomputable abbrev s_mode_of : Stmt := top 62
theorem sc_mode_of : FnScope ["how"] ["how"] (defScope s_mode_of) := ⟨rfl, rfl, rfl, by decide +kernel, rfl, by decide +kernel, by decide +kernel⟩
noncomputable abbrev s_holds : Stmt := top 63
theorem sc_holds : FnScope ["how"] ["how"] (defScope s_holds) := ⟨rfl, rfl, rfl, by decide +kernel, rfl, by decide +kernel, by decide +kernel⟩
noncomputable abbrev s_may_put : Stmt := top 64
theorem sc_may_put : FnScope ["f", "how"] ["f", "how"] (defScope s_may_put) := ⟨rfl, rfl, rfl, by decide +kernel, rfl, by decide +kernel, by decide +kernel⟩
noncomputable abbrev s_end_raw : Stmt := top 65
theorem sc_end_raw : FnScope ["f", "below"] ["f", "below"] (defScope s_end_raw) := ⟨rfl, rfl, rfl, by decide +kernel, rfl, by decide +kernel, by decide +kernel⟩
noncomputable abbrev s_put_ratio : Stmt := top 66
theorem sc_put_ratio : FnScope ["x", "f", "how", "kind"] ["x", "f", "how"] (defScope s_put_ratio) := ⟨rfl, rfl, rfl, by decide +kernel, rfl, by decide +kernel, by decide +kernel⟩
noncomputable abbrev s_put_fixed : Stmt := top 67
theorem sc_put_fixed : FnScope ["x", "f", "how", "below", "size", "steps", "flags", "raw"] ["x", "f", "how"] (defScope s_put_fixed) := ⟨rfl, rfl, rfl, by decide +kernel, rfl, by decide +kernel, by decide +kernel⟩
noncomputable abbrev s_put_float : Stmt := top 68
theorem sc_put_float : FnScope ["x", "f", "mode", "below", "fraction_bits", "lowest_place", "place", "size", "raw"] ["x", "f", "mode"] (defScope s_put_float) := ⟨rfl, rfl, rfl, by decide +kernel, rfl, by decide +kernel, by decide +kernel⟩
noncomputable abbrev s_read : Stmt := top 73
theorem sc_read : FnScope ["f", "how", "text", "x", "fault"] ["f", "how", "text"] (defScope s_read) := ⟨rfl, rfl, rfl, by decide +kernel, rfl, by decide +kernel, by decide +kernel⟩
noncomputable abbrev s_Ratio_init : Stmt := inClass (top 24) 0
theorem sc_Ratio_init : FnScope ["self", "top", "bottom"] ["self", "top", "bottom"] (defScope s_Ratio_init) := ⟨rfl, rfl, rfl, by decide +kernel, rfl, by decide +kernel, by decide +kernel⟩
noncomputable abbrev s_NoNumber_init : Stmt := inClass (top 33) 0
theorem sc_NoNumber_init : FnScope ["self", "place"] ["self", "place"] (defScope s_NoNumber_init) := ⟨rfl, rfl, rfl, by decide +kernel, rfl, by decide +kernel, by decide +kernel⟩
noncomputable abbrev s_Scan_init : Stmt := inClass (top 34) 0
theorem sc_Scan_init : FnScope ["self", "text"] ["self", "text"] (defScope s_Scan_init) := ⟨rfl, rfl, rfl, by decide +kernel, rfl, by decide +kernel, by decide +kernel⟩
set_option genInjectivity false in
set_option genSizeOf false in
structure Txt (K : PySem.W.Frag) (mg : Str → Option Value) : Type where
  f_kind_of : Addr
  fd_kind_of : FuncData
  F_kind_of : Fun K "kind_of" "kind_of" s_kind_of f_kind_of fd_kind_of
  m_kind_of : mg "kind_of" = some (.ref f_kind_of)
  f_width_of : Addr
  fd_width_of : FuncData
  F_width_of : Fun K "width_of" "width_of" s_width_of f_width_of fd_width_of
  m_width_of : mg "width_of" = some (.ref f_width_of)
  f_point_of : Addr
  fd_point_of : FuncData
  F_point_of : Fun K "point_of" "point_of" s_point_of f_point_of fd_point_of
  m_point_of : mg "point_of" = some (.ref f_point_of)
  f_is_format : Addr
  fd_is_format : FuncData
  F_is_format : Fun K "is_format" "is_format" s_is_format f_is_format fd_is_format
  m_is_format : mg "is_format" = some (.ref f_is_format)
  f_sign_bit : Addr
  fd_sign_bit : FuncData
  F_sign_bit : Fun K "sign_bit" "sign_bit" s_sign_bit f_sign_bit fd_sign_bit
  m_sign_bit : mg "sign_bit" = some (.ref f_sign_bit)
  f_infinity_raw : Addr
  fd_infinity_raw : FuncData
  F_infinity_raw : Fun K "infinity_raw" "infinity_raw" s_infinity_raw f_infinity_raw fd_infinity_raw
  m_infinity_raw : mg "infinity_raw" = some (.ref f_infinity_raw)
  f_greatest_raw : Addr
  fd_greatest_raw : FuncData
  F_greatest_raw : Fun K "greatest_raw" "greatest_raw" s_greatest_raw f_greatest_raw fd_greatest_raw
  m_greatest_raw : mg "greatest_raw" = some (.ref f_greatest_raw)
  f_least_raw : Addr
  fd_least_raw : FuncData
  F_least_raw : Fun K "least_raw" "least_raw" s_least_raw f_least_raw fd_least_raw
  m_least_raw : mg "least_raw" = some (.ref f_least_raw)
  f_digits_from : Addr
  fd_digits_from : FuncData
  F_digits_from : Fun K "digits_from" "digits_from" s_digits_from f_digits_from fd_digits_from
  m_digits_from : mg "digits_from" = some (.ref f_digits_from)
  f_number_of : Addr
  fd_number_of : FuncData
  F_number_of : Fun K "number_of" "number_of" s_number_of f_number_of fd_number_of
  m_number_of : mg "number_of" = some (.ref f_number_of)
  f_power_of_ten : Addr
  fd_power_of_ten : FuncData
  F_power_of_ten : Fun K "power_of_ten" "power_of_ten" s_power_of_ten f_power_of_ten fd_power_of_ten
  m_power_of_ten : mg "power_of_ten" = some (.ref f_power_of_ten)
  f_stands_here : Addr
  fd_stands_here : FuncData
  F_stands_here : Fun K "stands_here" "stands_here" s_stands_here f_stands_here fd_stands_here
  m_stands_here : mg "stands_here" = some (.ref f_stands_here)
  f_passes : Addr
  fd_passes : FuncData
  F_passes : Fun K "passes" "passes" s_passes f_passes fd_passes
  m_passes : mg "passes" = some (.ref f_passes)
  f_passes_before_digit : Addr
  fd_passes_before_digit : FuncData
  F_passes_before_digit : Fun K "passes_before_digit" "passes_before_digit" s_passes_before_digit f_passes_before_digit fd_passes_before_digit
  m_passes_before_digit : mg "passes_before_digit" = some (.ref f_passes_before_digit)
  f_read_digits : Addr
  fd_read_digits : FuncData
  F_read_digits : Fun K "read_digits" "read_digits" s_read_digits f_read_digits fd_read_digits
  m_read_digits : mg "read_digits" = some (.ref f_read_digits)
  f_read_divisor : Addr
  fd_read_divisor : FuncData
  F_read_divisor : Fun K "read_divisor" "read_divisor" s_read_divisor f_read_divisor fd_read_divisor
  m_read_divisor : mg "read_divisor" = some (.ref f_read_divisor)
  f_read_exponent : Addr
  fd_read_exponent : FuncData
  F_read_exponent : Fun K "read_exponent" "read_exponent" s_read_exponent f_read_exponent fd_read_exponent
  m_read_exponent : mg "read_exponent" = some (.ref f_read_exponent)
  f_times_ten_to : Addr
  fd_times_ten_to : FuncData
  F_times_ten_to : Fun K "times_ten_to" "times_ten_to" s_times_ten_to f_times_ten_to fd_times_ten_to
  m_times_ten_to : mg "times_ten_to" = some (.ref f_times_ten_to)
  f_read_size : Addr
  fd_read_size : FuncData
  F_read_size : Fun K "read_size" "read_size" s_read_size f_read_size fd_read_size
  m_read_size : mg "read_size" = some (.ref f_read_size)
  f_read_number : Addr
  fd_read_number : FuncData
  F_read_number : Fun K "read_number" "read_number" s_read_number f_read_number fd_read_number
  m_read_number : mg "read_number" = some (.ref f_read_number)
  f_steps_of : Addr
  fd_steps_of : FuncData
  F_steps_of : Fun K "steps_of" "steps_of" s_steps_of f_steps_of fd_steps_of
  m_steps_of : mg "steps_of" = some (.ref f_steps_of)
  f_is_mode : Addr
  fd_is_mode : FuncData
  F_is_mode : Fun K "is_mode" "is_mode" s_is_mode f_is_mode fd_is_mode
  m_is_mode : mg "is_mode" = some (.ref f_is_mode)
  f_in_steps : Addr
  fd_in_steps : FuncData
  F_in_steps : Fun K "in_steps" "in_steps" s_in_steps f_in_steps fd_in_steps
  m_in_steps : mg "in_steps" = some (.ref f_in_steps)
  f_leading_place : Addr
  fd_leading_place : FuncData
  F_leading_place : Fun K "leading_place" "leading_place" s_leading_place f_leading_place fd_leading_place
  m_leading_place : mg "leading_place" = some (.ref f_leading_place)
  f_quarters : Addr
  fd_quarters : FuncData
  F_quarters : Fun K "quarters" "quarters" s_quarters f_quarters fd_quarters
  m_quarters : mg "quarters" = some (.ref f_quarters)
  f_is_whole : Addr
  fd_is_whole : FuncData
  F_is_whole : Fun K "is_whole" "is_whole" s_is_whole f_is_whole fd_is_whole
  m_is_whole : mg "is_whole" = some (.ref f_is_whole)
  f_goes_far : Addr
  fd_goes_far : FuncData
  F_goes_far : Fun K "goes_far" "goes_far" s_goes_far f_goes_far fd_goes_far
  m_goes_far : mg "goes_far" = some (.ref f_goes_far)
  f_rounded : Addr
  fd_rounded : FuncData
  F_rounded : Fun K "rounded" "rounded" s_rounded f_rounded fd_rounded
  m_rounded : mg "rounded" = some (.ref f_rounded)
  f_mode_of : Addr
  fd_mode_of : FuncData
  F_mode_of : Fun K "mode_of" "mode_of" s_mode_of f_mode_of fd_mode_of
  m_mode_of : mg "mode_of" = some (.ref f_mode_of)
  f_holds : Addr
  fd_holds : FuncData
  F_holds : Fun K "holds" "holds" s_holds f_holds fd_holds
  m_holds : mg "holds" = some (.ref f_holds)
  f_may_put : Addr
  fd_may_put : FuncData
  F_may_put : Fun K "may_put" "may_put" s_may_put f_may_put fd_may_put
  m_may_put : mg "may_put" = some (.ref f_may_put)
  f_end_raw : Addr
  fd_end_raw : FuncData
  F_end_raw : Fun K "end_raw" "end_raw" s_end_raw f_end_raw fd_end_raw
  m_end_raw : mg "end_raw" = some (.ref f_end_raw)
  f_put_ratio : Addr
  fd_put_ratio : FuncData
  F_put_ratio : Fun K "put_ratio" "put_ratio" s_put_ratio f_put_ratio fd_put_ratio
  m_put_ratio : mg "put_ratio" = some (.ref f_put_ratio)
  f_put_fixed : Addr
  fd_put_fixed : FuncData
  F_put_fixed : Fun K "put_fixed" "put_fixed" s_put_fixed f_put_fixed fd_put_fixed
  m_put_fixed : mg "put_fixed" = some (.ref f_put_fixed)
  f_put_float : Addr
  fd_put_float : FuncData
  F_put_float : Fun K "put_float" "put_float" s_put_float f_put_float fd_put_float
  m_put_float : mg "put_float" = some (.ref f_put_float)
  f_read : Addr
  fd_read : FuncData
  F_read : Fun K "read" "read" s_read f_read fd_read
  m_read : mg "read" = some (.ref f_read)
  a_Ratio : Addr
  f_Ratio_init : Addr
  fd_Ratio_init : FuncData
  F_Ratio_init : Fun K "__init__" "Ratio.__init__" s_Ratio_init f_Ratio_init fd_Ratio_init
  m_Ratio : mg "Ratio" = some (.ref a_Ratio)
  cl_Ratio : Cls K a_Ratio
  mk_Ratio : Mk K a_Ratio f_Ratio_init
  na_Ratio_top : NoAttr K a_Ratio "top"
  na_Ratio_bottom : NoAttr K a_Ratio "bottom"
  a_NoNumber : Addr
  f_NoNumber_init : Addr
  fd_NoNumber_init : FuncData
  F_NoNumber_init : Fun K "__init__" "NoNumber.__init__" s_NoNumber_init f_NoNumber_init fd_NoNumber_init
  m_NoNumber : mg "NoNumber" = some (.ref a_NoNumber)
  xc_NoNumber : XCls K a_NoNumber f_NoNumber_init
  na_NoNumber_place : NoAttr K a_NoNumber "place"
  a_Scan : Addr
  f_Scan_init : Addr
  fd_Scan_init : FuncData
  F_Scan_init : Fun K "__init__" "Scan.__init__" s_Scan_init f_Scan_init fd_Scan_init
  m_Scan : mg "Scan" = some (.ref a_Scan)
  cl_Scan : Cls K a_Scan
  mk_Scan : Mk K a_Scan f_Scan_init
  na_Scan_text : NoAttr K a_Scan "text"
  na_Scan_place : NoAttr K a_Scan "place"
  na_Scan_room : NoAttr K a_Scan "room"
  c_TRUTH : ∃ u, mg "TRUTH" = some u ∧ RelV (.int (0)) u
  c_SIGNED : ∃ u, mg "SIGNED" = some u ∧ RelV (.int (1)) u
  c_UNSIGNED : ∃ u, mg "UNSIGNED" = some u ∧ RelV (.int (2)) u
  c_FLOAT : ∃ u, mg "FLOAT" = some u ∧ RelV (.int (3)) u
  c_T : ∃ u, mg "T" = some u ∧ RelV (.int (2048)) u
  c_F32 : ∃ u, mg "F32" = some u ∧ RelV (.int (204800)) u
  c_F64 : ∃ u, mg "F64" = some u ∧ RelV (.int (212992)) u
  a_WIDTHS : Addr
  c_WIDTHS : ∃ u, mg "WIDTHS" = some u ∧ RelV (.ref a_WIDTHS) u
  q_WIDTHS : ∀ H : Hp, SqT K H a_WIDTHS [.int (8), .int (16), .int (32), .int (64)]
  a_FRACTION_BITS : Addr
  c_FRACTION_BITS : ∃ u, mg "FRACTION_BITS" = some u ∧ RelV (.ref a_FRACTION_BITS) u
  q_FRACTION_BITS : DictK K a_FRACTION_BITS [(32, .int (23)), (64, .int (52))]
  a_LOWEST_PLACES : Addr
  c_LOWEST_PLACES : ∃ u, mg "LOWEST_PLACES" = some u ∧ RelV (.ref a_LOWEST_PLACES) u
  q_LOWEST_PLACES : DictK K a_LOWEST_PLACES [(32, .int (149)), (64, .int (1074))]
  c_NOUGHT : ∃ u, mg "NOUGHT" = some u ∧ RelV (.int (48)) u
  c_MOST_DIGITS : ∃ u, mg "MOST_DIGITS" = some u ∧ RelV (.int (40)) u
  c_MOST_EXPONENT_DIGITS : ∃ u, mg "MOST_EXPONENT_DIGITS" = some u ∧ RelV (.int (3)) u
  c_MINUS : ∃ u, mg "MINUS" = some u ∧ RelV (.int (45)) u
  c_POINT : ∃ u, mg "POINT" = some u ∧ RelV (.int (46)) u
  c_SLASH : ∃ u, mg "SLASH" = some u ∧ RelV (.int (47)) u
  c_LETTER_E : ∃ u, mg "LETTER_E" = some u ∧ RelV (.int (101)) u
  c_INEXACT : ∃ u, mg "INEXACT" = some u ∧ RelV (.int (1)) u
  c_HELD : ∃ u, mg "HELD" = some u ∧ RelV (.int (4)) u
  c_NEAREST_EVEN : ∃ u, mg "NEAREST_EVEN" = some u ∧ RelV (.int (0)) u
  c_TOWARD_NOUGHT : ∃ u, mg "TOWARD_NOUGHT" = some u ∧ RelV (.int (1)) u
  c_UP : ∃ u, mg "UP" = some u ∧ RelV (.int (2)) u
  c_DOWN : ∃ u, mg "DOWN" = some u ∧ RelV (.int (3)) u
  c_NEAREST_FAR : ∃ u, mg "NEAREST_FAR" = some u ∧ RelV (.int (4)) u
  c_WRONG_ARGUMENT : ∃ u, mg "WRONG_ARGUMENT" = some u ∧ RelV (.int (-1)) u
  c_NO_SUCH_TEXT : ∃ u, mg "NO_SUCH_TEXT" = some u ∧ RelV (.int (-6)) u
  c_MOST_BYTES : ∃ u, mg "MOST_BYTES" = some u ∧ RelV (.int (64)) u
  n_abs : mg "abs" = none
  n_len : mg "len" = none
  n_max : mg "max" = none
theorem on1 {α : Type _} {p : List α → Prop} (h : ∀ a0, p [a0]) : ∀ us : List α, us.length = 1 → p us
  | [a0], _ => h a0
theorem on2 {α : Type _} {p : List α → Prop} (h : ∀ a0 a1, p [a0, a1]) : ∀ us : List α, us.length = 2 → p us
  | [a0, a1], _ => h a0 a1
theorem on3 {α : Type _} {p : List α → Prop} (h : ∀ a0 a1 a2, p [a0, a1, a2]) : ∀ us : List α, us.length = 3 → p us
  | [a0, a1, a2], _ => h a0 a1 a2
section
variable {P : Program} {w : World} {K : PySem.W.Frag} {mg : Str → Option Value} {base : Heap}
theorem bd_Ratio_init (T : Txt K mg) : Binds K T.fd_Ratio_init ["self", "top", "bottom"] [] := T.F_Ratio_init.binds (ps := ["self", "top", "bottom"]) fun _ _ _ _ _ _ => on3 fun _ _ _ => rfl
theorem ok_Ratio_init (T : Txt K mg) : FnOk P w K mg base CX0 1 T.f_Ratio_init T.fd_Ratio_init ["self", "top", "bottom"] (sp_Ratio_init T.a_Ratio) := by
  refine T.F_Ratio_init.ok sc_Ratio_init (fun vs H Q E h => ?_) (fun cdv A outer s H vs Q E hr h => ?_)
  · obtain ⟨p, dx, t, b, rfl, _⟩ := h
    rfl
  · obtain ⟨p, dx, t, b, rfl, hp, k⟩ := h
    refine ⟨_, pss_cons (ps_fld (pv 0) (pv 1) rfl) (pss_one (ps_fld (pv 0) (pv 2) rfl)), ?_⟩
    refine ⟨_, rfl, _, rfl, p, T.a_Ratio, dx, [], rfl, hp, T.cl_Ratio, T.na_Ratio_top, (by show 0 < 1000; decide), ?_⟩
    refine ⟨_, rfl, _, rfl, p, T.a_Ratio, dx, _, rfl, upd_same, T.cl_Ratio, T.na_Ratio_bottom, (by show 1 < 1000; decide), ?_⟩
    exact k _ ⟨dx, upd_same⟩ fun a o e ha => by rw [upd_ne ha, upd_ne ha]; exact e
theorem bd_NoNumber_init (T : Txt K mg) : Binds K T.fd_NoNumber_init ["self", "place"] [] := T.F_NoNumber_init.binds (ps := ["self", "place"]) fun _ _ _ _ _ _ => on2 fun _ _ => rfl
theorem ok_NoNumber_init (T : Txt K mg) : FnOk P w K mg base CX0 1 T.f_NoNumber_init T.fd_NoNumber_init ["self", "place"] (sp_xinit T.a_NoNumber "place") := by
  refine T.F_NoNumber_init.ok sc_NoNumber_init (fun vs H Q E h => ?_) (fun cdv A outer s H vs Q E hr h => ?_)
  · obtain ⟨p, i, ws, rfl, _⟩ := h
    rfl
  · obtain ⟨p, i, ws, rfl, hp, k⟩ := h
    refine ⟨_, pss_one (ps_xset (pv 0) (pv 1) rfl), ?_⟩
    exact ⟨_, rfl, _, rfl, p, T.a_NoNumber, T.f_NoNumber_init, ws, rfl, hp, T.xc_NoNumber, T.na_NoNumber_place, fun dx hd => k dx hd⟩
theorem bd_Scan_init (T : Txt K mg) : Binds K T.fd_Scan_init ["self", "text"] [] := T.F_Scan_init.binds (ps := ["self", "text"]) fun _ _ _ _ _ _ => on2 fun _ _ => rfl
theorem ok_Scan_init (T : Txt K mg) : FnOk P w K mg base CX0 1 T.f_Scan_init T.fd_Scan_init ["self", "text"] (sp_Scan_init T.a_Scan) := by
  refine T.F_Scan_init.ok sc_Scan_init (fun vs H Q E h => ?_) (fun cdv A outer s H vs Q E hr h => ?_)
  · obtain ⟨p, dx, tp, rfl, _⟩ := h
    rfl
  · obtain ⟨p, dx, tp, rfl, hp, k⟩ := h
    refine ⟨_, pss_cons (ps_fld (pv 0) (pv 1) rfl) (pss_cons (ps_fld (pv 0) pe_int rfl) (pss_one (ps_fld (pv 0) (pe_globE rfl T.c_MOST_DIGITS) rfl))), ?_⟩
    refine ⟨_, rfl, _, rfl, p, T.a_Scan, dx, [], rfl, hp, T.cl_Scan, T.na_Scan_text, (by show 0 < 1000; decide), ?_⟩
    refine ⟨_, rfl, p, T.a_Scan, dx, _, rfl, upd_same, T.cl_Scan, T.na_Scan_place, (by show 1 < 1000; decide), ?_⟩
    refine ⟨_, rfl, p, T.a_Scan, dx, _, rfl, upd_same, T.cl_Scan, T.na_Scan_room, ?_, ?_⟩
    · have h1 := length_putF "place" (.int 0) (putF "text" (.ref tp) [])
      have h2 := length_putF "text" (.ref tp) []
      rw [List.length_nil] at h2
      omega
    · exact k _ ⟨dx, by rw [upd_same, sf_made]⟩ fun a o e ha => by rw [upd_ne ha, upd_ne ha, upd_ne ha]; exact e
noncomputable def sp_kind_of : Sp := fun vs H Q _ => ∃ (c : Int), vs = [.int c] ∧ (True) ∧ ∀ H' : Hp, Same H H' → Q (.int (m_kind_of c)) H'
theorem bd_kind_of (T : Txt K mg) : Binds K T.fd_kind_of ["c"] [] := T.F_kind_of.binds (ps := ["c"]) fun _ _ _ _ _ _ => on1 fun _ => rfl
theorem ok_kind_of (T : Txt K mg) : FnOk P w K mg base CX0 1 T.f_kind_of T.fd_kind_of ["c"] sp_kind_of := by
  refine T.F_kind_of.ok sc_kind_of (fun vs H Q E h => ?_) (fun cdv A outer s H vs Q E hr h => ?_)
  · obtain ⟨c, rfl, _⟩ := h
    rfl
  · obtain ⟨c, rfl, hpre, k⟩ := h
    refine ⟨_, (pss_one (ps_ret (pe_op op_fdivB (pv 0) pe_int))), ?_⟩
    refine ⟨_, rfl, _, _, rfl, rfl, ⟨by decide, by decide⟩, ?_⟩
    exact leaf k Same.refl2 (congrArg V.int (rfl))
noncomputable def sp_width_of : Sp := fun vs H Q _ => ∃ (c : Int), vs = [.int c] ∧ (True) ∧ ∀ H' : Hp, Same H H' → Q (.int (m_width_of c)) H'
theorem bd_width_of (T : Txt K mg) : Binds K T.fd_width_of ["c"] [] := T.F_width_of.binds (ps := ["c"]) fun _ _ _ _ _ _ => on1 fun _ => rfl
theorem ok_width_of (T : Txt K mg) : FnOk P w K mg base CX0 1 T.f_width_of T.fd_width_of ["c"] sp_width_of := by
  refine T.F_width_of.ok sc_width_of (fun vs H Q E h => ?_) (fun cdv A outer s H vs Q E hr h => ?_)
  · obtain ⟨c, rfl, _⟩ := h
    rfl
  · obtain ⟨c, rfl, hpre, k⟩ := h
    refine ⟨_, (pss_one (ps_ret (pe_op op_mod (pe_op op_fdivB (pv 0) pe_int) pe_int))), ?_⟩
    refine ⟨_, rfl, _, _, rfl, rfl, ⟨by decide, by decide⟩, _, _, rfl, rfl, (by show (0 : Int) < _; decide), ?_⟩
    exact leaf k Same.refl2 (congrArg V.int (rfl))
noncomputable def sp_point_of : Sp := fun vs H Q _ => ∃ (c : Int), vs = [.int c] ∧ (True) ∧ ∀ H' : Hp, Same H H' → Q (.int (m_point_of c)) H'
theorem bd_point_of (T : Txt K mg) : Binds K T.fd_point_of ["c"] [] := T.F_point_of.binds (ps := ["c"]) fun _ _ _ _ _ _ => on1 fun _ => rfl
theorem ok_point_of (T : Txt K mg) : FnOk P w K mg base CX0 1 T.f_point_of T.fd_point_of ["c"] sp_point_of := by
  refine T.F_point_of.ok sc_point_of (fun vs H Q E h => ?_) (fun cdv A outer s H vs Q E hr h => ?_)
  · obtain ⟨c, rfl, _⟩ := h
    rfl
  · obtain ⟨c, rfl, hpre, k⟩ := h
    refine ⟨_, (pss_one (ps_ret (pe_op op_mod (pv 0) pe_int))), ?_⟩
    refine ⟨_, rfl, _, _, rfl, rfl, (by show (0 : Int) < _; decide), ?_⟩
    exact leaf k Same.refl2 (congrArg V.int (rfl))
noncomputable def sp_is_format : Sp := fun vs H Q _ => ∃ (c : Int), vs = [.int c] ∧ (True) ∧ ∀ H' : Hp, Same H H' → Q (.bl (m_is_format c)) H'
theorem bd_is_format (T : Txt K mg) : Binds K T.fd_is_format ["c"] [] := T.F_is_format.binds (ps := ["c"]) fun _ _ _ _ _ _ => on1 fun _ => rfl
theorem ok_is_format (T : Txt K mg) : FnOk P w K mg base CX0 2 T.f_is_format T.fd_is_format ["c"] sp_is_format := by
  refine T.F_is_format.ok sc_is_format (fun vs H Q E h => ?_) (fun cdv A outer s H vs Q E hr h => ?_)
  · obtain ⟨c, rfl, _⟩ := h
    rfl
  · obtain ⟨c, rfl, hpre, k⟩ := h
    refine ⟨_, (pss_cons (ps_if (pt_cmpR op_inI (pv 0) (pe_tup (pa_cons (pe_globE rfl T.c_T) (pa_cons (pe_globE rfl T.c_F32) (pa_cons (pe_globE rfl T.c_F64) pa_nil)))) (by with_unfolding_all rfl)) (pss_one (ps_ret pe_bl)) pss_nil)
      (pss_cons (ps_if (pt_cmpR op_notInI (pe_call (ok_kind_of T) (hr.mono (by decide)) rfl T.m_kind_of T.F_kind_of.kp (bd_kind_of T) .nil pass0 (pa_cons (pv 0) pa_nil)) (pe_tup (pa_cons (pe_globE rfl T.c_SIGNED) (pa_cons (pe_globE rfl T.c_UNSIGNED) pa_nil))) (by with_unfolding_all rfl)) (pss_one (ps_ret pe_bl)) pss_nil)
      (pss_one (ps_ret (pe_and (pe_cmpR op_inI (pe_call (ok_width_of T) (hr.mono (by decide)) rfl T.m_width_of T.F_width_of.kp (bd_width_of T) .nil pass0 (pa_cons (pv 0) pa_nil)) (pe_globE rfl T.c_WIDTHS) (by with_unfolding_all rfl)) (pe_one (pe_cmpR op_le (pe_call (ok_point_of T) (hr.mono (by decide)) rfl T.m_point_of T.F_point_of.kp (bd_point_of T) .nil pass0 (pa_cons (pv 0) pa_nil)) (pe_call (ok_width_of T) (hr.mono (by decide)) rfl T.m_width_of T.F_width_of.kp (bd_width_of T) .nil pass0 (pa_cons (pv 0) pa_nil)) (nomark _)))))))), ?_⟩
    refine ⟨_, rfl, (by show 3 ≤ sizeLine; decide), fun p_1 h_2 => ?_⟩
    refine ⟨_, _, [(2048), (204800), (212992)], rfl, rfl, (SqT.of upd_same), _, rfl, ?_⟩
    refine iteB (fun c_3 => ?_) (fun c_3 => ?_)
    · replace c_3 : (c ∈ ([(2048), (204800), (212992)] : List Int)) := of_decide_eq_true c_3
      exact leaf k (Same.new h_2) (congrArg V.bl (by unfold m_is_format; rw [if_pos c_3]; try rfl))
    · replace c_3 : ¬ (c ∈ ([(2048), (204800), (212992)] : List Int)) := of_decide_eq_false c_3
      refine ⟨_, rfl, _, rfl, trivial, fun H_4 s_5 => ?_⟩
      refine ⟨(by show 2 ≤ sizeLine; decide), fun p_6 h_7 => ?_⟩
      refine ⟨_, _, [(1), (2)], rfl, rfl, (SqT.of upd_same), _, rfl, ?_⟩
      refine iteB (fun c_8 => ?_) (fun c_8 => ?_)
      · replace c_8 : (¬ ((m_kind_of c) ∈ ([(1), (2)] : List Int))) := of_decide_eq_true c_8
        exact leaf k (Same.trans (Same.trans (Same.new h_2) s_5) (Same.new h_7)) (congrArg V.bl (by unfold m_is_format; rw [if_neg c_3, if_pos c_8]; try rfl))
      · replace c_8 : ¬ (¬ ((m_kind_of c) ∈ ([(1), (2)] : List Int))) := of_decide_eq_false c_8
        refine ⟨_, rfl, _, rfl, trivial, fun H_9 s_10 => ?_⟩
        refine ⟨_, _, [(8), (16), (32), (64)], rfl, rfl, (T.q_WIDTHS _), _, rfl, ?_⟩
        refine iteB (fun c_11 => ?_) (fun c_11 => ?_)
        · replace c_11 : ((m_width_of c) ∈ ([(8), (16), (32), (64)] : List Int)) := of_decide_eq_true c_11
          refine ⟨_, rfl, _, rfl, trivial, fun H_12 s_13 => ?_⟩
          refine ⟨_, rfl, _, rfl, trivial, fun H_14 s_15 => ?_⟩
          refine ⟨_, _, rfl, rfl, ?_⟩
          exact leaf k (Same.trans (Same.trans (Same.trans (Same.trans (Same.trans (Same.new h_2) s_5) (Same.new h_7)) s_10) s_13) s_15) (congrArg V.bl (by unfold m_is_format; rw [if_neg c_3, if_neg c_8, if_pos c_11]; try rfl))
        · replace c_11 : ¬ ((m_width_of c) ∈ ([(8), (16), (32), (64)] : List Int)) := of_decide_eq_false c_11
          exact leaf k (Same.trans (Same.trans (Same.trans (Same.new h_2) s_5) (Same.new h_7)) s_10) (congrArg V.bl (by unfold m_is_format; rw [if_neg c_3, if_neg c_8, if_neg c_11]; try rfl))
noncomputable def sp_sign_bit : Sp := fun vs H Q _ => ∃ (c : Int), vs = [.int c] ∧ (1 ≤ m_width_of c) ∧ ∀ H' : Hp, Same H H' → Q (.int (m_sign_bit c)) H'
theorem bd_sign_bit (T : Txt K mg) : Binds K T.fd_sign_bit ["c"] [] := T.F_sign_bit.binds (ps := ["c"]) fun _ _ _ _ _ _ => on1 fun _ => rfl
theorem ok_sign_bit (T : Txt K mg) : FnOk P w K mg base CX0 2 T.f_sign_bit T.fd_sign_bit ["c"] sp_sign_bit := by
  refine T.F_sign_bit.ok sc_sign_bit (fun vs H Q E h => ?_) (fun cdv A outer s H vs Q E hr h => ?_)
  · obtain ⟨c, rfl, _⟩ := h
    rfl
  · obtain ⟨c, rfl, hpre, k⟩ := h
    refine ⟨_, (pss_one (ps_ret (pe_op op_shlB pe_int (pe_op op_sub (pe_call (ok_width_of T) (hr.mono (by decide)) rfl T.m_width_of T.F_width_of.kp (bd_width_of T) .nil pass0 (pa_cons (pv 0) pa_nil)) pe_int)))), ?_⟩
    refine ⟨_, rfl, _, rfl, trivial, fun H_1 s_2 => ?_⟩
    refine ⟨_, _, rfl, rfl, _, _, rfl, rfl, cshl (by omega) (m := 1) (by decide) (by have := width_lt c; omega), ?_⟩
    exact leaf k s_2 (congrArg V.int (rfl))
noncomputable def sp_infinity_raw : Sp := fun vs H Q _ => ∃ (c : Int), vs = [.int c] ∧ (m_width_of c = 32 ∨ m_width_of c = 64) ∧ ∀ H' : Hp, Same H H' → Q (.int (m_infinity_raw c)) H'
theorem bd_infinity_raw (T : Txt K mg) : Binds K T.fd_infinity_raw ["c"] [] := T.F_infinity_raw.binds (ps := ["c"]) fun _ _ _ _ _ _ => on1 fun _ => rfl
theorem ok_infinity_raw (T : Txt K mg) : FnOk P w K mg base CX0 3 T.f_infinity_raw T.fd_infinity_raw ["c"] sp_infinity_raw := by
  refine T.F_infinity_raw.ok sc_infinity_raw (fun vs H Q E h => ?_) (fun cdv A outer s H vs Q E hr h => ?_)
  · obtain ⟨c, rfl, _⟩ := h
    rfl
  · obtain ⟨c, rfl, hpre, k⟩ := h
    refine ⟨_, (pss_one (ps_ret (pe_op op_sub (pe_call (ok_sign_bit T) (hr.mono (by decide)) rfl T.m_sign_bit T.F_sign_bit.kp (bd_sign_bit T) .nil pass0 (pa_cons (pv 0) pa_nil)) (pe_op op_shlB pe_int (pe_dgetK (hu_of hr) (pe_globE rfl T.c_FRACTION_BITS) (pe_call (ok_width_of T) (hr.mono (by decide)) rfl T.m_width_of T.F_width_of.kp (bd_width_of T) .nil pass0 (pa_cons (pv 0) pa_nil)) (fun _ _ => rfl)))))), ?_⟩
    refine ⟨_, rfl, _, rfl, (by omega), fun H_1 s_2 => ?_⟩
    refine ⟨_, rfl, _, rfl, trivial, fun H_3 s_4 => ?_⟩
    refine ⟨T.a_FRACTION_BITS, .int (dictI [(32, 23), (64, 52)] (m_width_of c)), rfl, _, _, T.q_FRACTION_BITS, rfl, (by rcases hpre with h | h <;> rw [h] <;> rfl), _, _, rfl, rfl, cshl (fbits hpre).1 (m := 1) (by decide) (by have := (fbits hpre).2; omega), _, _, rfl, rfl, ?_⟩
    exact leaf k (Same.trans s_2 s_4) (congrArg V.int (rfl))
noncomputable def sp_greatest_raw : Sp := fun vs H Q _ => ∃ (c : Int), vs = [.int c] ∧ (m_is_format c = true) ∧ ∀ H' : Hp, Same H H' → Q (.int (m_greatest_raw c)) H'
theorem bd_greatest_raw (T : Txt K mg) : Binds K T.fd_greatest_raw ["c"] [] := T.F_greatest_raw.binds (ps := ["c"]) fun _ _ _ _ _ _ => on1 fun _ => rfl
theorem ok_greatest_raw (T : Txt K mg) : FnOk P w K mg base CX0 4 T.f_greatest_raw T.fd_greatest_raw ["c"] sp_greatest_raw := by
  refine T.F_greatest_raw.ok sc_greatest_raw (fun vs H Q E h => ?_) (fun cdv A outer s H vs Q E hr h => ?_)
  · obtain ⟨c, rfl, _⟩ := h
    rfl
  · obtain ⟨c, rfl, hpre, k⟩ := h
    refine ⟨_, (pss_cons (ps_set (i := 1) sc_greatest_raw.nd rfl (Or.inl rfl) (pe_call (ok_kind_of T) (hr.mono (by decide)) rfl T.m_kind_of T.F_kind_of.kp (bd_kind_of T) .nil pass0 (pa_cons (pv 0) pa_nil)))
      (pss_cons (ps_if (pt_cmpR op_eqI (pv 1) (pe_globE rfl T.c_SIGNED) (nomark _)) (pss_one (ps_ret (pe_op op_sub (pe_call (ok_sign_bit T) (hr.mono (by decide)) rfl T.m_sign_bit T.F_sign_bit.kp (bd_sign_bit T) .nil pass0 (pa_cons (pv 0) pa_nil)) pe_int))) pss_nil)
      (pss_cons (ps_if (pt_cmpR op_eqI (pv 1) (pe_globE rfl T.c_UNSIGNED) (nomark _)) (pss_one (ps_ret (pe_op op_sub (pe_op op_shlB pe_int (pe_call (ok_width_of T) (hr.mono (by decide)) rfl T.m_width_of T.F_width_of.kp (bd_width_of T) .nil pass0 (pa_cons (pv 0) pa_nil))) pe_int))) pss_nil)
      (pss_cons (ps_if (pt_cmpR op_eqI (pv 1) (pe_globE rfl T.c_FLOAT) (nomark _)) (pss_one (ps_ret (pe_op op_sub (pe_call (ok_infinity_raw T) (hr.mono (by decide)) rfl T.m_infinity_raw T.F_infinity_raw.kp (bd_infinity_raw T) .nil pass0 (pa_cons (pv 0) pa_nil)) pe_int))) pss_nil)
      (pss_one (ps_ret pe_int)))))), ?_⟩
    refine ⟨_, rfl, _, rfl, trivial, fun H_1 s_2 => ?_⟩
    refine ⟨_, rfl, _, _, rfl, rfl, _, rfl, ?_⟩
    refine iteB (fun c_3 => ?_) (fun c_3 => ?_)
    · replace c_3 : ((m_kind_of c) = (1)) := of_decide_eq_true c_3
      refine ⟨_, rfl, _, rfl, (isf_pos hpre), fun H_4 s_5 => ?_⟩
      refine ⟨_, _, rfl, rfl, ?_⟩
      exact leaf k (Same.trans s_2 s_5) (congrArg V.int (by unfold m_greatest_raw; rw [if_pos c_3]; try rfl))
    · replace c_3 : ¬ ((m_kind_of c) = (1)) := of_decide_eq_false c_3
      refine ⟨_, rfl, _, _, rfl, rfl, _, rfl, ?_⟩
      refine iteB (fun c_6 => ?_) (fun c_6 => ?_)
      · replace c_6 : ((m_kind_of c) = (2)) := of_decide_eq_true c_6
        refine ⟨_, rfl, _, rfl, trivial, fun H_7 s_8 => ?_⟩
        refine ⟨_, _, rfl, rfl, cshl (width_nn c) (m := 1) (by decide) (by have := width_lt c; omega), _, _, rfl, rfl, ?_⟩
        exact leaf k (Same.trans s_2 s_8) (congrArg V.int (by unfold m_greatest_raw; rw [if_neg c_3, if_pos c_6]; try rfl))
      · replace c_6 : ¬ ((m_kind_of c) = (2)) := of_decide_eq_false c_6
        refine ⟨_, rfl, _, _, rfl, rfl, _, rfl, ?_⟩
        refine iteB (fun c_9 => ?_) (fun c_9 => ?_)
        · replace c_9 : ((m_kind_of c) = (3)) := of_decide_eq_true c_9
          refine ⟨_, rfl, _, rfl, (isf_float hpre (by assumption)), fun H_10 s_11 => ?_⟩
          refine ⟨_, _, rfl, rfl, ?_⟩
          exact leaf k (Same.trans s_2 s_11) (congrArg V.int (by unfold m_greatest_raw; rw [if_neg c_3, if_neg c_6, if_pos c_9]; try rfl))
        · replace c_9 : ¬ ((m_kind_of c) = (3)) := of_decide_eq_false c_9
          exact leaf k s_2 (congrArg V.int (by unfold m_greatest_raw; rw [if_neg c_3, if_neg c_6, if_neg c_9]; try rfl))
noncomputable def sp_least_raw : Sp := fun vs H Q _ => ∃ (c : Int), vs = [.int c] ∧ (m_is_format c = true) ∧ ∀ H' : Hp, Same H H' → Q (.int (m_least_raw c)) H'
theorem bd_least_raw (T : Txt K mg) : Binds K T.fd_least_raw ["c"] [] := T.F_least_raw.binds (ps := ["c"]) fun _ _ _ _ _ _ => on1 fun _ => rfl
theorem ok_least_raw (T : Txt K mg) : FnOk P w K mg base CX0 5 T.f_least_raw T.fd_least_raw ["c"] sp_least_raw := by
  refine T.F_least_raw.ok sc_least_raw (fun vs H Q E h => ?_) (fun cdv A outer s H vs Q E hr h => ?_)
  · obtain ⟨c, rfl, _⟩ := h
    rfl
  · obtain ⟨c, rfl, hpre, k⟩ := h
    refine ⟨_, (pss_cons (ps_set (i := 1) sc_least_raw.nd rfl (Or.inl rfl) (pe_call (ok_kind_of T) (hr.mono (by decide)) rfl T.m_kind_of T.F_kind_of.kp (bd_kind_of T) .nil pass0 (pa_cons (pv 0) pa_nil)))
      (pss_cons (ps_if (pt_cmpR op_eqI (pv 1) (pe_globE rfl T.c_SIGNED) (nomark _)) (pss_one (ps_ret (pe_call (ok_sign_bit T) (hr.mono (by decide)) rfl T.m_sign_bit T.F_sign_bit.kp (bd_sign_bit T) .nil pass0 (pa_cons (pv 0) pa_nil)))) pss_nil)
      (pss_cons (ps_if (pt_cmpR op_eqI (pv 1) (pe_globE rfl T.c_FLOAT) (nomark _)) (pss_one (ps_ret (pe_op op_add (pe_call (ok_sign_bit T) (hr.mono (by decide)) rfl T.m_sign_bit T.F_sign_bit.kp (bd_sign_bit T) .nil pass0 (pa_cons (pv 0) pa_nil)) (pe_call (ok_greatest_raw T) (hr.mono (by decide)) rfl T.m_greatest_raw T.F_greatest_raw.kp (bd_greatest_raw T) .nil pass0 (pa_cons (pv 0) pa_nil))))) pss_nil)
      (pss_one (ps_ret pe_int))))), ?_⟩
    refine ⟨_, rfl, _, rfl, trivial, fun H_1 s_2 => ?_⟩
    refine ⟨_, rfl, _, _, rfl, rfl, _, rfl, ?_⟩
    refine iteB (fun c_3 => ?_) (fun c_3 => ?_)
    · replace c_3 : ((m_kind_of c) = (1)) := of_decide_eq_true c_3
      refine ⟨_, rfl, _, rfl, (isf_pos hpre), fun H_4 s_5 => ?_⟩
      exact leaf k (Same.trans s_2 s_5) (congrArg V.int (by unfold m_least_raw; rw [if_pos c_3]; try rfl))
    · replace c_3 : ¬ ((m_kind_of c) = (1)) := of_decide_eq_false c_3
      refine ⟨_, rfl, _, _, rfl, rfl, _, rfl, ?_⟩
      refine iteB (fun c_6 => ?_) (fun c_6 => ?_)
      · replace c_6 : ((m_kind_of c) = (3)) := of_decide_eq_true c_6
        refine ⟨_, rfl, _, rfl, (isf_pos hpre), fun H_7 s_8 => ?_⟩
        refine ⟨_, rfl, _, rfl, hpre, fun H_9 s_10 => ?_⟩
        refine ⟨_, _, rfl, rfl, ?_⟩
        exact leaf k (Same.trans (Same.trans s_2 s_8) s_10) (congrArg V.int (by unfold m_least_raw; rw [if_neg c_3, if_pos c_6]; try rfl))
      · replace c_6 : ¬ ((m_kind_of c) = (3)) := of_decide_eq_false c_6
        exact leaf k s_2 (congrArg V.int (by unfold m_least_raw; rw [if_neg c_3, if_neg c_6]; try rfl))
noncomputable def sp_digits_from (K : PySem.W.Frag) : Sp := fun vs H Q _ => ∃ (tp : Addr) (t : List UInt8) (p : Nat), vs = [.ref tp, .int p] ∧ SqL K H tp ((tI t).map V.int) ∧ (p ≤ t.length ∧ t.length ≤ 64) ∧ ∀ (H' : Hp) (a : Addr), Same H H' → H' a = some (.lst ((tI (My.dgs t p)).map V.int)) → Q (.ref a) H'
theorem bd_digits_from (T : Txt K mg) : Binds K T.fd_digits_from ["text", "start"] [] := T.F_digits_from.binds (ps := ["text", "start"]) fun _ _ _ _ _ _ => on2 fun _ _ => rfl
theorem ok_digits_from (T : Txt K mg) : FnOk P w K mg base CX0 1 T.f_digits_from T.fd_digits_from ["text", "start"] (sp_digits_from K) := by
  refine T.F_digits_from.ok sc_digits_from (fun vs H Q E h => ?_) (fun cdv A outer s H vs Q E hr h => ?_)
  · obtain ⟨tp, t, p, rfl, _⟩ := h
    rfl
  · obtain ⟨tp, t, p, rfl, hS, ⟨hp, hl⟩, k⟩ := h
    have hd := My.dgs_len t p hp
    refine ⟨_, (pss_cons (ps_set (i := 2) sc_digits_from.nd rfl (Or.inl rfl) (pv 1))
      (pss_cons (ps_while PassesOwn.never (PW.pt (pw_and (pt_cmpR op_lt (pv 2) (pe_callB call_lenI (by rfl) T.n_len (by decide +kernel) (pa_cons (pv 0) pa_nil)) (nomark _)) (pw_and1 (pt_chain op_le op_le (pe_globE rfl T.c_NOUGHT) (pe_ix ix_list (pv 0) (pv 2) (fun _ _ => rfl)) (pe_op op_add (pe_globE rfl T.c_NOUGHT) pe_int))))) (pss_one (ps_aug (i := 2) sc_digits_from.nd rfl (Or.inl rfl) pe_int (pip_of iop_add))))
      (pss_one (ps_ret (pe_slice sl_list (pv 0) (po_some (pv 1)) (po_some (pv 2))))))), ?_⟩
    refine ⟨_, rfl, ?_⟩
    refine ⟨fun m σ' H' => ∃ j : Nat, σ' = [some (.ref tp), some (.int p), some (.int ((p + j : Nat) : Int))] ∧ H' = H ∧ j ≤ (My.dgs t p).length ∧ m = (My.dgs t p).length - j, ⟨_, 0, rfl, rfl, Nat.zero_le _, rfl⟩, ?_⟩
    rintro m σ' H' ⟨j, rfl, rfl, hj, rfl⟩
    have nxt := My.dgs_at hj
    have fin : ∀ q : VK, (∀ (H2 : Hp) (a : Addr), Same H' H2 → H2 a = some (.lst ((tI (My.dgs t p)).map V.int)) → q (.ref a) H2) → ¬ j < (My.dgs t p).length → tSl (rSlL K) (tVar 0) (tPart (tVar 1)) (tPart (tVar 2)) [some (.ref tp), some (.int p), some (.int ((p + j : Nat) : Int))] H' q := by
      intro q kq nj
      have ej : j = (My.dgs t p).length := by omega
      subst ej
      refine ⟨_, rfl, _, rfl, _, rfl, _, rfl, _, rfl, tp, _, rfl, hS, fun a ha => ?_⟩
      refine kq _ _ (Same.new ha) ?_
      rw [upd_same, cut_mid _ _ _ (by rw [tI_len]; exact hd) (by omega), tI_cut, Nat.add_sub_cancel_left]
      have : (t.drop p).take (My.dgs t p).length = My.dgs t p := by
        unfold My.dgs
        exact List.prefix_iff_eq_take.mp (List.takeWhile_prefix _) |>.symm
      rw [this]
    refine ⟨_, rfl, _, rfl, tp, tI t, rfl, hS, _, _, rfl, rfl, _, rfl, ?_⟩
    refine iteB (fun c => ?_) (fun c => ?_)
    · have c1 : p + j < t.length := by
        have := of_decide_eq_true c
        rw [List.length_map] at this
        omega
      obtain ⟨z, hz⟩ : ∃ z, t[p + j]? = some z := ⟨_, List.getElem?_eq_getElem c1⟩
      refine ⟨_, rfl, _, rfl, tp, _, _, _, rfl, rfl, hS, at_of rfl (tI_at hz), _, _, rfl, rfl, _, rfl, ?_⟩
      refine iteB (fun c2 => ?_) (fun c2 => ?_)
      · replace c2 : (48 : Int) ≤ ((z.toNat : Nat) : Int) := of_decide_eq_true c2
        refine ⟨_, _, rfl, rfl, _, _, rfl, rfl, _, rfl, ?_⟩
        refine iteB (fun c3 => ?_) (fun c3 => ?_)
        · replace c3 : ((z.toNat : Nat) : Int) ≤ 48 + 9 := of_decide_eq_true c3
          have lt := nxt.mpr ⟨z, hz, My.dig_of (by omega) (by omega)⟩
          refine ⟨fun σ'' H'' => σ'' = [some (.ref tp), some (.int p), some (.int ((p + (j + 1) : Nat) : Int))] ∧ H'' = H', ?_, ?_⟩
          · rintro σ'' H'' ⟨rfl, rfl⟩
            exact ⟨(My.dgs t p).length - (j + 1), by omega, j + 1, rfl, rfl, lt, rfl⟩
          · refine ⟨_, rfl, _, _, rfl, rfl, ?_, rfl⟩
            rw [show ((p + (j + 1) : Nat) : Int) = ((p + j : Nat) : Int) + 1 by omega]
            rfl
        · replace c3 : ¬ ((z.toNat : Nat) : Int) ≤ 48 + 9 := of_decide_eq_false c3
          refine fin _ k fun lt => ?_
          obtain ⟨z', hz', dz⟩ := nxt.mp lt
          rw [hz] at hz'
          cases hz'
          have := My.dig_range dz
          omega
      · replace c2 : ¬ (48 : Int) ≤ ((z.toNat : Nat) : Int) := of_decide_eq_false c2
        refine ⟨_, rfl, fin _ k fun lt => ?_⟩
        obtain ⟨z', hz', dz⟩ := nxt.mp lt
        rw [hz] at hz'
        cases hz'
        have := My.dig_range dz
        omega
    · have c1 : ¬ p + j < t.length := by
        have := of_decide_eq_false c
        rw [List.length_map] at this
        omega
      refine fin _ k fun lt => ?_
      obtain ⟨z', hz', _⟩ := nxt.mp lt
      exact c1 (List.getElem?_eq_some_iff.mp hz').1
noncomputable def sp_number_of (K : PySem.W.Frag) : Sp := fun vs H Q _ => ∃ (a : Addr) (d : List UInt8), vs = [.ref a] ∧ SqL K H a ((tI d).map V.int) ∧ (d.all Sh.isDigit = true ∧ d.length ≤ 64) ∧ ∀ H' : Hp, Same H H' → Q (.int ((Sh.numberOf d : Nat) : Int)) H'
theorem bd_number_of (T : Txt K mg) : Binds K T.fd_number_of ["digits"] [] := T.F_number_of.binds (ps := ["digits"]) fun _ _ _ _ _ _ => on1 fun _ => rfl
theorem ok_number_of (T : Txt K mg) : FnOk P w K mg base CX0 1 T.f_number_of T.fd_number_of ["digits"] (sp_number_of K) := by
  refine T.F_number_of.ok sc_number_of (fun vs H Q E h => ?_) (fun cdv A outer s H vs Q E hr h => ?_)
  · obtain ⟨a, d, rfl, _⟩ := h
    rfl
  · obtain ⟨a, d, rfl, hS, ⟨hd, hl⟩, k⟩ := h
    refine ⟨_, (pss_cons (ps_set (i := 1) sc_number_of.nd rfl (Or.inl rfl) pe_int)
      (pss_cons (ps_for PassesOwn.never rfl (pi_list (pv 0)) (pg_name (i := 2) sc_number_of.nd rfl (Or.inl rfl)) (pss_one (ps_set (i := 1) sc_number_of.nd rfl (Or.inl rfl) (pe_op op_sub (pe_op op_add (pe_op op_mulB (pv 1) pe_int) (pv 2)) (pe_globE rfl T.c_NOUGHT)))))
      (pss_one (ps_ret (pv 1))))), ?_⟩
    refine ⟨_, rfl, a, rfl, ⟨_, hS⟩, ?_⟩
    refine for_list (K := K) (xs := (tI d).map V.int) (fun i σ H' => ∃ v, σ = [some (.ref a), some (.int ((Sh.numberOf (d.take i) : Nat) : Int)), v] ∧ H' = H) ⟨none, rfl, rfl⟩ (fun i σ H' _ h => by obtain ⟨_, _, rfl⟩ := h; exact hS) ?_ ?_
    · rintro i x σ H' hi ⟨v, rfl, rfl⟩
      rw [List.getElem?_map, List.getElem?_map] at hi
      obtain ⟨c, hc⟩ : ∃ c, d[i]? = some c := by
        cases e : d[i]? with
        | none => rw [e] at hi; cases hi
        | some c => exact ⟨c, rfl⟩
      rw [hc] at hi
      cases hi
      have cd := My.dig_range (List.all_eq_true.mp hd c (List.mem_of_getElem? hc))
      have ta : (d.take i).all Sh.isDigit = true := List.all_eq_true.mpr fun x hx => List.all_eq_true.mp hd x (List.mem_of_mem_take hx)
      have lt := My.numberOf_lt _ ta
      have z1 : Sz 300 ((Sh.numberOf (d.take i) : Nat) : Int) := by
        unfold Sz
        rw [Int.natAbs_natCast]
        refine Nat.lt_of_lt_of_le lt (Nat.le_trans (Nat.pow_le_pow_right (by decide) (show (d.take i).length ≤ 64 by rw [List.length_take]; omega)) (by decide))
      refine ⟨_, rfl, _, _, rfl, rfl, cmul z1 (n := 4) (by decide), _, rfl, _, _, rfl, rfl, _, _, rfl, rfl, some (.int ((c.toNat : Nat) : Int)), ?_, rfl⟩
      have hi' : i < d.length := (List.getElem?_eq_some_iff.mp hc).1
      have ec : d[i] = c := (List.getElem?_eq_some_iff.mp hc).2
      rw [List.take_succ, hc, Option.toList_some, My.numberOf_snoc]
      have e1 : (((10 * Sh.numberOf (d.take i) + (c.toNat - 48) : Nat)) : Int) = ((Sh.numberOf (d.take i) : Nat) : Int) * 10 + ((c.toNat : Nat) : Int) - 48 := by omega
      rw [e1]
      rfl
    · rintro σ H' ⟨v, rfl, rfl⟩
      refine ⟨_, rfl, ?_⟩
      rw [tI_len, List.take_length]
      exact k _ Same.refl2
noncomputable def sp_power_of_ten : Sp := fun vs H Q _ => ∃ (exponent : Int), vs = [.int exponent] ∧ (exponent ≤ 2000) ∧ ∀ H' : Hp, Same H H' → Q (.int (m_power_of_ten exponent)) H'
theorem bd_power_of_ten (T : Txt K mg) : Binds K T.fd_power_of_ten ["exponent"] [] := T.F_power_of_ten.binds (ps := ["exponent"]) fun _ _ _ _ _ _ => on1 fun _ => rfl
theorem ok_power_of_ten (T : Txt K mg) : FnOk P w K mg base CX0 1 T.f_power_of_ten T.fd_power_of_ten ["exponent"] sp_power_of_ten := by
  refine T.F_power_of_ten.ok sc_power_of_ten (fun vs H Q E h => ?_) (fun cdv A outer s H vs Q E hr h => ?_)
  · obtain ⟨a, rfl, _⟩ := h
    rfl
  · obtain ⟨a, rfl, hp, k⟩ := h
    refine ⟨_, (pss_cons (ps_set (i := 1) sc_power_of_ten.nd rfl (Or.inl rfl) pe_int)
      (pss_cons (ps_set (i := 2) sc_power_of_ten.nd rfl (Or.inl rfl) pe_int)
      (pss_cons (ps_while PassesOwn.never (pt_cmpR op_gt (pv 0) pe_int (nomark _)) (pss_cons (ps_if (pt_cmpR op_eqI (pe_op op_mod (pv 0) pe_int) pe_int (nomark _)) (pss_one (ps_aug (i := 1) sc_power_of_ten.nd rfl (Or.inl rfl) (pv 2) (pip_of iop_mulB))) pss_nil)
      (pss_cons (ps_aug (i := 2) sc_power_of_ten.nd rfl (Or.inl rfl) (pv 2) (pip_of iop_mulB))
      (pss_one (ps_aug (i := 0) sc_power_of_ten.nd rfl (Or.inl rfl) pe_int (pip_of iop_fdivB))))))
      (pss_one (ps_ret (pv 1)))))), ?_⟩
    refine ⟨fun m σ' H' => ∃ (x : Int) (i j : Nat), σ' = [some (.int x), some (.int (10 ^ i)), some (.int (10 ^ j))] ∧ H' = H ∧ i + j * x.toNat = a.toNat ∧ m = x.toNat, ⟨_, a, 0, 1, rfl, rfl, by omega, rfl⟩, ?_⟩
    rintro m σ' H' ⟨x, i, j, rfl, rfl, hi, rfl⟩
    refine ⟨_, rfl, _, _, rfl, rfl, _, rfl, ?_⟩
    refine iteB (fun c => ?_) (fun c => ?_)
    · replace c : 0 < x := of_decide_eq_true c
      have hj : j ≤ 2000 := by
        have : j * 1 ≤ j * x.toNat := Nat.mul_le_mul_left _ (by omega)
        omega
      have hi2 : i ≤ 2000 := by omega
      have step : ∀ i' : Nat, i' + (j + j) * (x / 2).toNat = a.toNat → ∃ m', m' < x.toNat ∧ ∃ (x' : Int) (i2 j2 : Nat), ([some (V.int (x / 2)), some (V.int (10 ^ i')), some (V.int (10 ^ (2 * j)))] : List (Option V)) = [some (.int x'), some (.int (10 ^ i2)), some (.int (10 ^ j2))] ∧ H' = H' ∧ i2 + j2 * x'.toNat = a.toNat ∧ m' = x'.toNat := fun i' e => ⟨(x / 2).toNat, by omega, x / 2, i', 2 * j, rfl, rfl, by rw [← e]; congr 2; omega, rfl⟩
      have sq : (10 : Int) ^ j * 10 ^ j = 10 ^ (2 * j) := by rw [← Int.pow_add]; congr 1; omega
      refine ⟨fun σ'' H'' => ∃ i' : Nat, σ'' = [some (V.int (x / 2)), some (V.int (10 ^ i')), some (V.int (10 ^ (2 * j)))] ∧ H'' = H' ∧ i' + (j + j) * (x / 2).toNat = a.toNat, ?_, ?_⟩
      · rintro σ'' H'' ⟨i', rfl, rfl, e⟩
        exact step i' e
      · refine ⟨_, rfl, _, _, rfl, rfl, (by show (0 : Int) < 2; decide), _, _, rfl, rfl, _, rfl, ?_⟩
        refine iteB (fun c2 => ?_) (fun c2 => ?_)
        · replace c2 : x % 2 = 1 := of_decide_eq_true c2
          refine ⟨_, rfl, _, rfl, _, _, rfl, rfl, cmul (ten_sz hi2) (ten_sz hj), ?_⟩
          refine ⟨_, rfl, _, rfl, _, _, rfl, rfl, cmul (ten_sz hj) (ten_sz hj), ?_⟩
          refine ⟨_, rfl, _, _, rfl, rfl, ⟨by decide, by decide⟩, i + j, ?_, rfl, ?_⟩
          · rw [← sq, Int.pow_add]; rfl
          · rw [← hi, Nat.add_mul, show x.toNat = 1 + ((x / 2).toNat + (x / 2).toNat) by omega, Nat.mul_add, Nat.mul_add]; omega
        · replace c2 : ¬ x % 2 = 1 := of_decide_eq_false c2
          refine ⟨_, rfl, _, rfl, _, _, rfl, rfl, cmul (ten_sz hj) (ten_sz hj), ?_⟩
          refine ⟨_, rfl, _, _, rfl, rfl, ⟨by decide, by decide⟩, i, ?_, rfl, ?_⟩
          · rw [← sq]; rfl
          · rw [← hi, Nat.add_mul, show x.toNat = (x / 2).toNat + (x / 2).toNat by omega, Nat.mul_add] <;> omega
    · replace c : ¬ 0 < x := of_decide_eq_false c
      refine ⟨_, rfl, ?_⟩
      refine leaf k Same.refl2 (congrArg V.int ?_)
      unfold m_power_of_ten
      rw [← hi, show x.toNat = 0 by omega, Nat.mul_zero]
      rfl
noncomputable def sp_stands_here (K : PySem.W.Frag) (C : Addr) : Sp := fun vs H Q _ => ∃ (sc tp : Addr) (t : List UInt8) (p : Nat) (r : Int) (b : UInt8), vs = [.ref sc, .int ((b.toNat : Nat) : Int)] ∧ ScanAt C H sc tp p r ∧ SqL K H tp ((tI t).map V.int) ∧ ∀ H' : Hp, Same H H' → Q (.bl (decide (t[p]? = some b))) H'
theorem bd_stands_here (T : Txt K mg) : Binds K T.fd_stands_here ["scan", "byte"] [] := T.F_stands_here.binds (ps := ["scan", "byte"]) fun _ _ _ _ _ _ => on2 fun _ _ => rfl
theorem ok_stands_here (T : Txt K mg) : FnOk P w K mg base CX0 1 T.f_stands_here T.fd_stands_here ["scan", "byte"] (sp_stands_here K T.a_Scan) := by
  refine T.F_stands_here.ok sc_stands_here (fun vs H Q E h => ?_) (fun cdv A outer s H vs Q E hr h => ?_)
  · obtain ⟨sc, tp, t, p, r, b, rfl, _⟩ := h
    rfl
  · obtain ⟨sc, tp, t, p, r, b, rfl, hs, hS, k⟩ := h
    refine ⟨_, (pss_one (ps_ret (pe_and (pe_cmpR op_lt (pe_fld (pv 0) rfl) (pe_callB call_lenI (by rfl) T.n_len (by decide +kernel) (pa_cons (pe_fld (pv 0) rfl) pa_nil)) (nomark _)) (pe_one (pe_cmpR op_eqI (pe_ix ix_list (pe_fld (pv 0) rfl) (pe_fld (pv 0) rfl) (fun _ _ => rfl)) (pv 1) (nomark _)))))), ?_⟩
    refine ⟨_, rfl, sc_place hs T.cl_Scan T.na_Scan_place ⟨_, rfl, sc_text hs T.cl_Scan T.na_Scan_text ⟨tp, tI t, rfl, hS, _, _, rfl, rfl, _, rfl, ?_⟩⟩⟩
    refine iteB (fun c => ?_) (fun c => ?_)
    · have c1 : p < t.length := by
        have := of_decide_eq_true c
        rw [List.length_map] at this
        omega
      obtain ⟨z, hz⟩ : ∃ z, t[p]? = some z := ⟨_, List.getElem?_eq_getElem c1⟩
      refine ⟨_, rfl, sc_text hs T.cl_Scan T.na_Scan_text ⟨_, rfl, sc_place hs T.cl_Scan T.na_Scan_place ⟨tp, _, _, _, rfl, rfl, hS, at_of rfl (tI_at hz), _, rfl, _, _, rfl, rfl, ?_⟩⟩⟩
      refine leaf k Same.refl2 (congrArg V.bl ?_)
      rw [hz]
      have e : (some z = some b) ↔ (((z.toNat : Nat) : Int) = ((b.toNat : Nat) : Int)) := by
        rw [Option.some.injEq]
        constructor
        · intro h; rw [h]
        · intro h; exact UInt8.toNat_inj.mp (by omega)
      exact decide_eq_decide.mpr e
    · have c1 : ¬ p < t.length := by
        have := of_decide_eq_false c
        rw [List.length_map] at this
        omega
      refine leaf k Same.refl2 (congrArg V.bl ?_)
      rw [List.getElem?_eq_none (by omega)]
      rfl
noncomputable def sp_passes (K : PySem.W.Frag) (C : Addr) : Sp := fun vs H Q _ => ∃ (sc tp : Addr) (t : List UInt8) (p : Nat) (r : Int) (b : UInt8), vs = [.ref sc, .int ((b.toNat : Nat) : Int)] ∧ ScanAt C H sc tp p r ∧ SqL K H tp ((tI t).map V.int) ∧ ∀ H' : Hp, SameX sc H H' → ScanAt C H' sc tp ((if t[p]? = some b then p + 1 else p : Nat) : Int) r → Q (.bl (decide (t[p]? = some b))) H'
theorem bd_passes (T : Txt K mg) : Binds K T.fd_passes ["scan", "byte"] [] := T.F_passes.binds (ps := ["scan", "byte"]) fun _ _ _ _ _ _ => on2 fun _ _ => rfl
theorem ok_passes (T : Txt K mg) : FnOk P w K mg base CX0 2 T.f_passes T.fd_passes ["scan", "byte"] (sp_passes K T.a_Scan) := by
  refine T.F_passes.ok sc_passes (fun vs H Q E h => ?_) (fun cdv A outer s H vs Q E hr h => ?_)
  · obtain ⟨sc, tp, t, p, r, b, rfl, _⟩ := h
    rfl
  · obtain ⟨sc, tp, t, p, r, b, rfl, hs, hS, k⟩ := h
    refine ⟨_, (pss_cons (ps_if (pt_not (pt_val (pe_call (ok_stands_here T) (hr.mono (by decide)) rfl T.m_stands_here T.F_stands_here.kp (bd_stands_here T) .nil pass0 (pa_cons (pv 0) (pa_cons (pv 1) pa_nil))))) (pss_one (ps_ret pe_bl)) pss_nil)
      (pss_cons (ps_fldaug (pv 0) pe_int in_add)
      (pss_one (ps_ret pe_bl)))), ?_⟩
    refine ⟨_, rfl, _, rfl, sc, tp, t, p, r, b, rfl, hs, hS, fun H1 s1 => ?_⟩
    refine ⟨_, rfl, ?_⟩
    by_cases c : t[p]? = some b
    · rw [decide_eq_true c, if_pos c] at k
      rw [decide_eq_true c]
      refine iteF ?_
      obtain ⟨dx, hs1⟩ := hs.keep s1
      refine ⟨_, rfl, sc, T.a_Scan, dx, _, _, rfl, hs1, T.cl_Scan, T.na_Scan_place, sf_place _ _ _, _, _, rfl, rfl, dx, _, hs1, sf_len _ _ _, ?_⟩
      rw [sf_putp]
      refine k _ (fun a o n e => ?_) ⟨dx, upd_same⟩
      rw [upd_ne n]
      exact s1 _ _ e
    · rw [decide_eq_false c, if_neg c] at k
      rw [decide_eq_false c]
      refine iteT ?_
      exact k _ (SameX.of s1) (hs.keep s1)
noncomputable def sp_passes_before_digit (K : PySem.W.Frag) (C : Addr) : Sp := fun vs H Q _ => ∃ (sc tp : Addr) (t : List UInt8) (p r : Nat) (b : UInt8), vs = [.ref sc, .int ((b.toNat : Nat) : Int)] ∧ ScanAt C H sc tp p r ∧ SqL K H tp ((tI t).map V.int) ∧ ∀ H' : Hp, SameX sc H H' → ScanAt C H' sc tp ((if 0 < r ∧ t[p]? = some b then p + 1 else p : Nat) : Int) r → Q (.bl (decide (0 < r ∧ t[p]? = some b))) H'
theorem bd_passes_before_digit (T : Txt K mg) : Binds K T.fd_passes_before_digit ["scan", "byte"] [] := T.F_passes_before_digit.binds (ps := ["scan", "byte"]) fun _ _ _ _ _ _ => on2 fun _ _ => rfl
theorem ok_passes_before_digit (T : Txt K mg) : FnOk P w K mg base CX0 3 T.f_passes_before_digit T.fd_passes_before_digit ["scan", "byte"] (sp_passes_before_digit K T.a_Scan) := by
  refine T.F_passes_before_digit.ok sc_passes_before_digit (fun vs H Q E h => ?_) (fun cdv A outer s H vs Q E hr h => ?_)
  · obtain ⟨sc, tp, t, p, r, b, rfl, _⟩ := h
    rfl
  · obtain ⟨sc, tp, t, p, r, b, rfl, hs, hS, k⟩ := h
    refine ⟨_, (pss_one (ps_ret (pe_and (pe_cmpR op_gt (pe_fld (pv 0) rfl) pe_int (nomark _)) (pe_one (pe_call (ok_passes T) (hr.mono (by decide)) rfl T.m_passes T.F_passes.kp (bd_passes T) .nil pass0 (pa_cons (pv 0) (pa_cons (pv 1) pa_nil))))))), ?_⟩
    refine ⟨_, rfl, sc_room hs T.cl_Scan T.na_Scan_room ⟨_, _, rfl, rfl, _, rfl, ?_⟩⟩
    refine iteB (fun c => ?_) (fun c => ?_)
    · have c1 : 0 < r := by have := of_decide_eq_true c; omega
      refine ⟨_, rfl, _, rfl, sc, tp, t, p, _, b, rfl, hs, hS, fun H1 s1 h1 => ?_⟩
      by_cases c2 : t[p]? = some b
      · rw [decide_eq_true c2]
        rw [if_pos c2] at h1
        rw [decide_eq_true (show 0 < r ∧ t[p]? = some b from ⟨c1, c2⟩), if_pos ⟨c1, c2⟩] at k
        exact k _ s1 h1
      · rw [decide_eq_false c2]
        rw [if_neg c2] at h1
        rw [decide_eq_false (show ¬ (0 < r ∧ t[p]? = some b) from fun z => c2 z.2), if_neg (show ¬ (0 < r ∧ t[p]? = some b) from fun z => c2 z.2)] at k
        exact k _ s1 h1
    · have c1 : ¬ 0 < r := by have := of_decide_eq_false c; omega
      rw [decide_eq_false (show ¬ (0 < r ∧ t[p]? = some b) from fun z => c1 z.1), if_neg (show ¬ (0 < r ∧ t[p]? = some b) from fun z => c1 z.1)] at k
      exact k _ SameX.refl hs
noncomputable def sp_read_digits (K : PySem.W.Frag) (C : Addr) : Sp := fun vs H Q E => ∃ (sc tp : Addr) (t : List UInt8) (p r : Nat), vs = [.ref sc] ∧ ScanAt C H sc tp p r ∧ SqL K H tp ((tI t).map V.int) ∧ (p ≤ t.length ∧ t.length ≤ 64) ∧ (∀ q : Nat, My.rDigits t p r = .bad q → ∀ H' : Hp, SameX sc H H' → E (.int q 0) none H') ∧
  ∀ (d : List UInt8) (p' r' : Nat), My.rDigits t p r = .ok d p' r' → ∀ (H' : Hp) (a : Addr), SameX sc H H' → ScanAt C H' sc tp p' r' → H' a = some (.lst ((tI d).map V.int)) → Q (.ref a) H'
theorem bd_read_digits (T : Txt K mg) : Binds K T.fd_read_digits ["scan"] [] := T.F_read_digits.binds (ps := ["scan"]) fun _ _ _ _ _ _ => on1 fun _ => rfl
theorem ok_read_digits (T : Txt K mg) : FnOk P w K mg base (CXE P w T.a_NoNumber "place") 3 T.f_read_digits T.fd_read_digits ["scan"] (sp_read_digits K T.a_Scan) := by
  refine T.F_read_digits.okX sc_read_digits (fun vs H Q E h => ?_) (fun cdv A outer s H vs Q E hr h => ?_)
  · obtain ⟨sc, tp, t, p, r, rfl, _⟩ := h
    rfl
  · obtain ⟨sc, tp, t, p, r, rfl, hs, hS, hp, kb, kk⟩ := h
    unfold My.rDigits at kb kk
    refine ⟨_, (pss_cons (ps_set (i := 1) sc_read_digits.nd rfl (Or.inl rfl) (pe_call (ok_digits_from T) (hr.mono (by decide)) rfl T.m_digits_from T.F_digits_from.kp (bd_digits_from T) .nil pass0 (pa_cons (pe_fld (pv 0) rfl) (pa_cons (pe_fld (pv 0) rfl) pa_nil))))
      (pss_cons (ps_if (pt_cmpR op_eqI (pe_callB call_lenI (by rfl) T.n_len (by decide +kernel) (pa_cons (pv 1) pa_nil)) pe_int (nomark _)) (pss_one (ps_raise lets_cx rfl T.xc_NoNumber (ok_NoNumber_init T) (hr.mono (by decide)) (bd_NoNumber_init T) rfl rfl T.m_NoNumber (pe_fld (pv 0) rfl))) pss_nil)
      (pss_cons (ps_if (pt_cmpR op_gt (pe_callB call_lenI (by rfl) T.n_len (by decide +kernel) (pa_cons (pv 1) pa_nil)) (pe_fld (pv 0) rfl) (nomark _)) (pss_one (ps_raise lets_cx rfl T.xc_NoNumber (ok_NoNumber_init T) (hr.mono (by decide)) (bd_NoNumber_init T) rfl rfl T.m_NoNumber (pe_op op_add (pe_fld (pv 0) rfl) (pe_fld (pv 0) rfl)))) pss_nil)
      (pss_cons (ps_fldaug (pv 0) (pe_callB call_lenI (by rfl) T.n_len (by decide +kernel) (pa_cons (pv 1) pa_nil)) in_add)
      (pss_cons (ps_fldaug (pv 0) (pe_callB call_lenI (by rfl) T.n_len (by decide +kernel) (pa_cons (pv 1) pa_nil)) in_sub)
      (pss_one (ps_ret (pv 1)))))))), ?_⟩
    refine ⟨_, rfl, sc_text hs T.cl_Scan T.na_Scan_text ⟨_, rfl, sc_place hs T.cl_Scan T.na_Scan_place ⟨tp, t, p, rfl, hS, hp, fun H1 a s1 h1 => ?_⟩⟩⟩
    have hs1 := hs.keep s1
    refine ⟨_, rfl, a, tI (My.dgs t p), rfl, SqL.of h1, _, _, rfl, rfl, _, rfl, ?_⟩
    refine iteB (fun c => ?_) (fun c => ?_)
    · have c1 : (My.dgs t p).length = 0 := by
        have := of_decide_eq_true c
        rw [List.length_map] at this
        omega
      rw [if_pos c1] at kb
      exact ⟨_, rfl, sc_place hs1 T.cl_Scan T.na_Scan_place ⟨_, rfl, fun dx hd => kb p rfl _ (SameX.of (Same.trans s1 (Same.new hd)))⟩⟩
    · have c1 : ¬ (My.dgs t p).length = 0 := by
        have := of_decide_eq_false c
        rw [List.length_map] at this
        omega
      rw [if_neg c1] at kb kk
      refine ⟨_, rfl, a, tI (My.dgs t p), rfl, SqL.of h1, _, rfl, sc_room hs1 T.cl_Scan T.na_Scan_room ⟨_, _, rfl, rfl, _, rfl, ?_⟩⟩
      refine iteB (fun c => ?_) (fun c => ?_)
      · have c2 : r < (My.dgs t p).length := by
          have := of_decide_eq_true c
          rw [List.length_map] at this
          omega
        rw [if_pos c2] at kb
        exact ⟨_, rfl, sc_place hs1 T.cl_Scan T.na_Scan_place ⟨_, rfl, sc_room hs1 T.cl_Scan T.na_Scan_room ⟨_, _, rfl, rfl, _, rfl, fun dx hd => kb (p + r) rfl _ (SameX.of (Same.trans s1 (Same.new hd)))⟩⟩⟩
      · have c2 : ¬ r < (My.dgs t p).length := by
          have := of_decide_eq_false c
          rw [List.length_map] at this
          omega
        rw [if_neg c2] at kk
        obtain ⟨dx, hx1⟩ := id hs1
        refine ⟨_, rfl, sc, T.a_Scan, dx, _, _, rfl, hx1, T.cl_Scan, T.na_Scan_place, sf_place _ _ _, _, rfl, a, tI (My.dgs t p), rfl, SqL.of h1, _, _, rfl, rfl, dx, _, hx1, sf_len _ _ _, ?_⟩
        rw [sf_putp]
        have hne : a ≠ sc := fun z => by rw [z, hx1] at h1; cases h1
        have h2 : (upd H1 sc (.ins T.a_Scan dx (sf tp ((p : Int) + ((tI (My.dgs t p)).length : Nat)) r))) a = some (.lst ((tI (My.dgs t p)).map V.int)) := by rw [upd_ne hne]; exact h1
        refine ⟨_, rfl, sc, T.a_Scan, dx, _, _, rfl, upd_same, T.cl_Scan, T.na_Scan_room, sf_room _ _ _, _, rfl, a, tI (My.dgs t p), rfl, SqL.of h2, _, _, rfl, rfl, dx, _, upd_same, sf_len _ _ _, ?_⟩
        rw [sf_putr, upd_upd]
        refine ⟨_, rfl, kk _ _ _ rfl _ a (fun b o n e => ?_) ⟨dx, ?_⟩ ?_⟩
        · rw [upd_ne n]; exact s1 _ _ e
        · rw [upd_same, List.length_map, show ((r - (My.dgs t p).length : Nat) : Int) = (r : Int) - ((My.dgs t p).length : Nat) by omega, show ((p + (My.dgs t p).length : Nat) : Int) = (p : Int) + ((My.dgs t p).length : Nat) by omega]
        · rw [upd_ne hne]; exact h1
noncomputable def sp_read_divisor (K : PySem.W.Frag) (C : Addr) : Sp := fun vs H Q E => ∃ (sc tp : Addr) (t : List UInt8) (p r : Nat), vs = [.ref sc] ∧ ScanAt C H sc tp p r ∧ SqL K H tp ((tI t).map V.int) ∧ (p ≤ t.length ∧ t.length ≤ 64 ∧ 1 ≤ r) ∧ (∀ q : Nat, My.rDivisor t p r = .bad q → ∀ H' : Hp, SameX sc H H' → E (.int q 0) none H') ∧
  ∀ (n p' r' : Nat), My.rDivisor t p r = .ok n p' r' → ∀ H' : Hp, SameX sc H H' → ScanAt C H' sc tp p' r' → Q (.int (n : Int)) H'
theorem bd_read_divisor (T : Txt K mg) : Binds K T.fd_read_divisor ["scan"] [] := T.F_read_divisor.binds (ps := ["scan"]) fun _ _ _ _ _ _ => on1 fun _ => rfl
theorem ok_read_divisor (T : Txt K mg) : FnOk P w K mg base (CXE P w T.a_NoNumber "place") 4 T.f_read_divisor T.fd_read_divisor ["scan"] (sp_read_divisor K T.a_Scan) := by
  refine T.F_read_divisor.okX sc_read_divisor (fun vs H Q E h => ?_) (fun cdv A outer s H vs Q E hr h => ?_)
  · obtain ⟨sc, tp, t, p, r, rfl, _⟩ := h
    rfl
  · obtain ⟨sc, tp, t, p, r, rfl, hs, hS, ⟨hp, hl, hr1⟩, kb, kk⟩ := h
    unfold My.rDivisor at kb kk
    have zl := My.zrs_len t p hp
    refine ⟨_, (pss_cons (ps_while PassesOwn.leaving (pt_val (pe_call (ok_stands_here T) (hr.mono (by decide)) rfl T.m_stands_here T.F_stands_here.kp (bd_stands_here T) .nil pass0 (pa_cons (pv 0) (pa_cons (pe_globE rfl T.c_NOUGHT) pa_nil)))) (pss_cons (ps_if (pt_cmpR op_eqI (pe_fld (pv 0) rfl) pe_int (nomark _)) (pss_one (ps_raise lets_cx rfl T.xc_NoNumber (ok_NoNumber_init T) (hr.mono (by decide)) (bd_NoNumber_init T) rfl rfl T.m_NoNumber (pe_fld (pv 0) rfl))) pss_nil)
      (pss_cons (ps_fldaug (pv 0) pe_int in_add)
      (pss_one (ps_fldaug (pv 0) pe_int in_sub)))))
      (pss_one (ps_ret (pe_call (ok_number_of T) (hr.mono (by decide)) rfl T.m_number_of T.F_number_of.kp (bd_number_of T) .nil pass0 (pa_cons (pe_call (ok_read_digits T) (hr.mono (by decide)) rfl T.m_read_digits T.F_read_digits.kp (bd_read_digits T) .nil (lets_cx.passes rfl) (pa_cons (pv 0) pa_nil)) pa_nil))))), ?_⟩
    refine ⟨fun m σ' H' => ∃ j : Nat, σ' = [some (.ref sc)] ∧ SameX sc H H' ∧ ScanAt T.a_Scan H' sc tp ((p + j : Nat) : Int) ((r - j : Nat) : Int) ∧ j < r ∧ j + My.zrs t (p + j) = My.zrs t p ∧ m = My.zrs t p - j, ⟨_, 0, rfl, SameX.refl, hs, hr1, by rw [Nat.zero_add]; rfl, rfl⟩, ?_⟩
    rintro m σ' H' ⟨j, rfl, sX, hs1, hj, ez, rfl⟩
    have hS1 := sX.seq hs hS
    refine ⟨_, rfl, sc, tp, t, p + j, _, 48, rfl, hs1, hS1, fun H1 s1 => ⟨_, rfl, ?_⟩⟩
    have hs2 := hs1.keep s1
    have sX1 : SameX sc H H1 := sX.trans (SameX.of s1)
    by_cases c : t[p + j]? = some 48
    · rw [decide_eq_true c]
      refine iteT ?_
      have z1 := My.zrs_at.1 c
      refine ⟨fun σ'' H'' => σ'' = [some (.ref sc)] ∧ SameX sc H H'' ∧ ScanAt T.a_Scan H'' sc tp ((p + (j + 1) : Nat) : Int) ((r - (j + 1) : Nat) : Int) ∧ j + 1 < r, ?_, ?_⟩
      · rintro σ'' H'' ⟨rfl, sX2, hs3, hj2⟩
        refine ⟨My.zrs t p - (j + 1), by omega, j + 1, rfl, sX2, hs3, hj2, ?_, rfl⟩
        rw [← Nat.add_assoc p j 1]
        omega
      · refine ⟨_, rfl, sc_room hs2 T.cl_Scan T.na_Scan_room ⟨_, _, rfl, rfl, _, rfl, ?_⟩⟩
        refine iteB (fun c2 => ?_) (fun c2 => ?_)
        · have c3 : r = j + 1 := by have := of_decide_eq_true c2; omega
          rw [if_pos (by omega)] at kb
          refine ⟨_, rfl, sc_place hs2 T.cl_Scan T.na_Scan_place ⟨_, rfl, fun dx hd => ?_⟩⟩
          have := kb (p + (r - 1)) rfl _ (sX1.trans (SameX.new (a := sc) (p := dx) (o := .xd [("place", .int ((p + j : Nat) : Int))]) hd))
          rw [show p + (r - 1) = p + j by omega] at this
          exact this
        · have c3 : ¬ r = j + 1 := by have := of_decide_eq_false c2; omega
          obtain ⟨dx, hx⟩ := id hs2
          refine ⟨_, rfl, sc, T.a_Scan, dx, _, _, rfl, hx, T.cl_Scan, T.na_Scan_place, sf_place _ _ _, _, _, rfl, rfl, dx, _, hx, sf_len _ _ _, ?_⟩
          rw [sf_putp]
          refine ⟨_, rfl, sc, T.a_Scan, dx, _, _, rfl, upd_same, T.cl_Scan, T.na_Scan_room, sf_room _ _ _, _, _, rfl, rfl, dx, _, upd_same, sf_len _ _ _, ?_⟩
          rw [sf_putr, upd_upd]
          refine ⟨rfl, fun b o n e => ?_, ⟨dx, ?_⟩, by omega⟩
          · rw [upd_ne n]; exact sX1 b o n e
          · rw [upd_same, show ((r - (j + 1) : Nat) : Int) = ((r - j : Nat) : Int) - 1 by omega, show ((p + (j + 1) : Nat) : Int) = ((p + j : Nat) : Int) + 1 by omega]
    · rw [decide_eq_false c]
      refine iteF ?_
      have z1 := My.zrs_at.2 c
      have ej : My.zrs t p = j := by omega
      rw [ej] at kb kk zl
      rw [if_neg (by omega)] at kb kk
      refine ⟨_, rfl, sc, tp, t, p + j, r - j, rfl, hs2, sX1.seq hs hS, ⟨by omega, hl⟩, fun q e H2 s2 => ?_, fun d p' r' e H2 a s2 h2 l2 => ?_⟩
      · rw [e] at kb
        exact kb q rfl _ (sX1.trans s2)
      · obtain ⟨ed, _, _, dl, _⟩ := My.rDigits_ok e
        rw [e] at kk
        refine ⟨a, d, rfl, SqL.of l2, ⟨by rw [ed]; exact My.dgs_all _ _, ?_⟩, fun H3 s3 => kk _ _ _ rfl _ (sX1.trans (s2.trans (SameX.of s3))) (h2.keep s3)⟩
        have := My.dgs_len t (p + j) (by omega)
        rw [← ed] at this
        omega
noncomputable def sp_read_exponent (K : PySem.W.Frag) (C : Addr) : Sp := fun vs H Q E => ∃ (sc tp : Addr) (t : List UInt8) (p r : Nat), vs = [.ref sc] ∧ ScanAt C H sc tp p r ∧ SqL K H tp ((tI t).map V.int) ∧ (t.length ≤ 64) ∧ (∀ q : Nat, My.rExp t p r = .bad q → ∀ H' : Hp, SameX sc H H' → E (.int q 0) none H') ∧
  ∀ (n : Int) (p' r' : Nat), My.rExp t p r = .ok n p' r' → ∀ H' : Hp, SameX sc H H' → ScanAt C H' sc tp p' r' → Q (.int n) H'
theorem bd_read_exponent (T : Txt K mg) : Binds K T.fd_read_exponent ["scan"] [] := T.F_read_exponent.binds (ps := ["scan"]) fun _ _ _ _ _ _ => on1 fun _ => rfl
theorem ok_read_exponent (T : Txt K mg) : FnOk P w K mg base (CXE P w T.a_NoNumber "place") 3 T.f_read_exponent T.fd_read_exponent ["scan"] (sp_read_exponent K T.a_Scan) := by
  refine T.F_read_exponent.okX sc_read_exponent (fun vs H Q E h => ?_) (fun cdv A outer s H vs Q E hr h => ?_)
  · obtain ⟨sc, tp, t, p, r, rfl, _⟩ := h
    rfl
  · obtain ⟨sc, tp, t, p, r, rfl, hs, hS, hl, kb, kk⟩ := h
    unfold My.rExp at kb kk
    refine ⟨_, (pss_cons (ps_if (pt_not (pt_val (pe_call (ok_passes T) (hr.mono (by decide)) rfl T.m_passes T.F_passes.kp (bd_passes T) .nil pass0 (pa_cons (pv 0) (pa_cons (pe_globE rfl T.c_LETTER_E) pa_nil))))) (pss_one (ps_ret pe_int)) pss_nil)
      (pss_cons (ps_set (i := 1) sc_read_exponent.nd rfl (Or.inl rfl) (pe_call (ok_passes T) (hr.mono (by decide)) rfl T.m_passes T.F_passes.kp (bd_passes T) .nil pass0 (pa_cons (pv 0) (pa_cons (pe_globE rfl T.c_MINUS) pa_nil))))
      (pss_cons (ps_set (i := 2) sc_read_exponent.nd rfl (Or.inl rfl) (pe_slice sl_list (pe_call (ok_digits_from T) (hr.mono (by decide)) rfl T.m_digits_from T.F_digits_from.kp (bd_digits_from T) .nil pass0 (pa_cons (pe_fld (pv 0) rfl) (pa_cons (pe_fld (pv 0) rfl) pa_nil))) po_none (po_some (pe_globE rfl T.c_MOST_EXPONENT_DIGITS))))
      (pss_cons (ps_if (pt_cmpR op_eqI (pe_callB call_lenI (by rfl) T.n_len (by decide +kernel) (pa_cons (pv 2) pa_nil)) pe_int (nomark _)) (pss_one (ps_raise lets_cx rfl T.xc_NoNumber (ok_NoNumber_init T) (hr.mono (by decide)) (bd_NoNumber_init T) rfl rfl T.m_NoNumber (pe_fld (pv 0) rfl))) pss_nil)
      (pss_cons (ps_fldaug (pv 0) (pe_callB call_lenI (by rfl) T.n_len (by decide +kernel) (pa_cons (pv 2) pa_nil)) in_add)
      (pss_one (ps_ret (pe_ifExp (pt_val (pv 1)) (pe_un un_neg (pe_call (ok_number_of T) (hr.mono (by decide)) rfl T.m_number_of T.F_number_of.kp (bd_number_of T) .nil pass0 (pa_cons (pv 2) pa_nil))) (pe_call (ok_number_of T) (hr.mono (by decide)) rfl T.m_number_of T.F_number_of.kp (bd_number_of T) .nil pass0 (pa_cons (pv 2) pa_nil)))))))))), ?_⟩
    refine ⟨_, rfl, sc, tp, t, p, _, 101, rfl, hs, hS, fun H1 s1 h1 => ⟨_, rfl, ?_⟩⟩
    by_cases c : t[p]? = some 101
    · rw [decide_eq_true c]
      rw [if_pos c] at h1 kb kk
      refine iteF ?_
      have hS1 := s1.seq hs hS
      refine ⟨_, rfl, sc, tp, t, p + 1, _, 45, rfl, h1, hS1, fun H2 s2 h2 => ?_⟩
      have e2 : (if t[p + 1]? = some 45 then p + 1 + 1 else p + 1 : Nat) = My.ePlace t p := rfl
      rw [e2] at h2
      have s12 := s1.trans s2
      have hS2 := s12.seq hs hS
      refine ⟨_, rfl, sc_text h2 T.cl_Scan T.na_Scan_text ⟨_, rfl, sc_place h2 T.cl_Scan T.na_Scan_place ⟨tp, t, My.ePlace t p, rfl, hS2, ⟨My.ePlace_le c, hl⟩, fun H3 a s3 h3 => ?_⟩⟩⟩
      refine ⟨_, rfl, a, _, rfl, SqL.of h3, fun d hd => ?_⟩
      have hld : (upd H3 d (.lst (cutV ((tI (My.dgs t (My.ePlace t p))).map V.int) none (some 3)))) d = some (.lst ((tI ((My.dgs t (My.ePlace t p)).take 3)).map V.int)) := by
        rw [upd_same, show (some (3 : Int)) = some ((3 : Nat) : Int) from rfl, cut_to, tI_take]
      have h4 := (h2.keep s3).keep (Same.new (p := d) (o := .lst (cutV ((tI (My.dgs t (My.ePlace t p))).map V.int) none (some 3))) hd)
      have s14 : SameX sc H (upd H3 d (.lst (cutV ((tI (My.dgs t (My.ePlace t p))).map V.int) none (some 3)))) := s12.trans ((SameX.of s3).trans (SameX.new hd))
      generalize upd H3 d (.lst (cutV ((tI (My.dgs t (My.ePlace t p))).map V.int) none (some 3))) = H4 at *
      have dd : ((My.dgs t (My.ePlace t p)).take 3).all Sh.isDigit = true := List.all_eq_true.mpr fun x hx => List.all_eq_true.mp (My.dgs_all t _) x (List.mem_of_mem_take hx)
      have dl : ((My.dgs t (My.ePlace t p)).take 3).length ≤ 64 := by rw [List.length_take]; omega
      generalize (My.dgs t (My.ePlace t p)).take 3 = D at *
      refine ⟨_, rfl, d, tI D, rfl, SqL.of hld, _, _, rfl, rfl, _, rfl, ?_⟩
      refine iteB (fun c2 => ?_) (fun c2 => ?_)
      · have c3 : D.length = 0 := by
          have := of_decide_eq_true c2
          rw [List.length_map] at this
          omega
        rw [if_pos c3] at kb
        exact ⟨_, rfl, sc_place h4 T.cl_Scan T.na_Scan_place ⟨_, rfl, fun dx hx => kb _ rfl _ (s14.trans (SameX.new hx))⟩⟩
      · have c3 : ¬ D.length = 0 := by
          have := of_decide_eq_false c2
          rw [List.length_map] at this
          omega
        rw [if_neg c3] at kk
        obtain ⟨dx, hx⟩ := id h4
        refine ⟨_, rfl, sc, T.a_Scan, dx, _, _, rfl, hx, T.cl_Scan, T.na_Scan_place, sf_place _ _ _, _, rfl, d, tI D, rfl, SqL.of hld, _, _, rfl, rfl, dx, _, hx, sf_len _ _ _, ?_⟩
        rw [sf_putp]
        have hne : d ≠ sc := fun z => by rw [z, hx] at hld; cases hld
        have l5 : (upd H4 sc (.ins T.a_Scan dx (sf tp (((My.ePlace t p : Nat) : Int) + ((tI D).length : Nat)) r))) d = some (.lst ((tI D).map V.int)) := by rw [upd_ne hne]; exact hld
        have s15 : SameX sc H (upd H4 sc (.ins T.a_Scan dx (sf tp (((My.ePlace t p : Nat) : Int) + ((tI D).length : Nat)) r))) := fun b o n e => by rw [upd_ne n]; exact s14 b o n e
        have h5 : ScanAt T.a_Scan (upd H4 sc (.ins T.a_Scan dx (sf tp (((My.ePlace t p : Nat) : Int) + ((tI D).length : Nat)) r))) sc tp ((My.ePlace t p + D.length : Nat) : Int) r := ⟨dx, by rw [upd_same, List.length_map, show ((My.ePlace t p + D.length : Nat) : Int) = ((My.ePlace t p : Nat) : Int) + ((D.length : Nat) : Int) by omega]⟩
        generalize upd H4 sc (.ins T.a_Scan dx (sf tp (((My.ePlace t p : Nat) : Int) + ((tI D).length : Nat)) r)) = H5 at *
        refine ⟨_, rfl, _, rfl, ?_⟩
        by_cases c4 : t[p + 1]? = some 45
        · rw [decide_eq_true c4]
          rw [if_pos c4] at kk
          refine iteT ?_
          exact ⟨_, rfl, d, D, rfl, SqL.of l5, ⟨dd, dl⟩, fun H6 s6 => ⟨_, rfl, kk _ _ _ rfl _ (s15.trans (SameX.of s6)) (h5.keep s6)⟩⟩
        · rw [decide_eq_false c4]
          rw [if_neg c4] at kk
          refine iteF ?_
          exact ⟨_, rfl, d, D, rfl, SqL.of l5, ⟨dd, dl⟩, fun H6 s6 => kk _ _ _ rfl _ (s15.trans (SameX.of s6)) (h5.keep s6)⟩
    · rw [decide_eq_false c]
      rw [if_neg c] at h1 kk
      refine iteT ?_
      exact kk _ _ _ rfl _ s1 h1
noncomputable def sp_times_ten_to (C : Addr) : Sp := fun vs H Q _ => ∃ (number : Int) (exponent : Int), vs = [.int number, .int exponent] ∧ (Sz 2000 number ∧ -1500 ≤ exponent ∧ exponent ≤ 1500) ∧ ∀ (H' : Hp) (p : Addr), Same H H' → RatAt C H' p (m_times_ten_to number exponent).1 (m_times_ten_to number exponent).2 → Q (.ref p) H'
theorem bd_times_ten_to (T : Txt K mg) : Binds K T.fd_times_ten_to ["number", "exponent"] [] := T.F_times_ten_to.binds (ps := ["number", "exponent"]) fun _ _ _ _ _ _ => on2 fun _ _ => rfl
theorem ok_times_ten_to (T : Txt K mg) : FnOk P w K mg base CX0 3 T.f_times_ten_to T.fd_times_ten_to ["number", "exponent"] (sp_times_ten_to T.a_Ratio) := by
  refine T.F_times_ten_to.ok sc_times_ten_to (fun vs H Q E h => ?_) (fun cdv A outer s H vs Q E hr h => ?_)
  · obtain ⟨number, exponent, rfl, _⟩ := h
    rfl
  · obtain ⟨number, exponent, rfl, hpre, k⟩ := h
    refine ⟨_, (pss_cons (ps_if (pt_cmpR op_lt (pv 1) pe_int (nomark _)) (pss_one (ps_ret (pe_make T.mk_Ratio (ok_Ratio_init T) (hr.mono (by decide)) rfl T.m_Ratio (bd_Ratio_init T) .nil pass0 (pa_cons (pv 0) (pa_cons (pe_call (ok_power_of_ten T) (hr.mono (by decide)) rfl T.m_power_of_ten T.F_power_of_ten.kp (bd_power_of_ten T) .nil pass0 (pa_cons (pe_un un_neg (pv 1)) pa_nil)) pa_nil))))) pss_nil)
      (pss_one (ps_ret (pe_make T.mk_Ratio (ok_Ratio_init T) (hr.mono (by decide)) rfl T.m_Ratio (bd_Ratio_init T) .nil pass0 (pa_cons (pe_op op_mulB (pv 0) (pe_call (ok_power_of_ten T) (hr.mono (by decide)) rfl T.m_power_of_ten T.F_power_of_ten.kp (bd_power_of_ten T) .nil pass0 (pa_cons (pv 1) pa_nil))) (pa_cons pe_int pa_nil)))))), ?_⟩
    refine ⟨_, rfl, _, _, rfl, rfl, _, rfl, ?_⟩
    refine iteB (fun c_1 => ?_) (fun c_1 => ?_)
    · replace c_1 : (exponent < (0)) := of_decide_eq_true c_1
      refine ⟨_, rfl, _, rfl, _, rfl, _, rfl, (by omega), fun H_2 s_3 => ?_⟩
      intro p_5 d_8 n_9 n_10 _
      refine ⟨p_5, d_8, _, _, rfl, upd_same, fun H_4 h_7 k_11 => ⟨rfl, ?_⟩⟩
      have s_6 := Same.made n_9 n_10 k_11
      exact leafR (u := (number, (m_power_of_ten (-exponent)))) k (Same.trans s_3 s_6) h_7 (by unfold m_times_ten_to; rw [if_pos c_1]; try rfl)
    · replace c_1 : ¬ (exponent < (0)) := of_decide_eq_false c_1
      refine ⟨_, rfl, _, rfl, _, rfl, (by omega), fun H_12 s_13 => ?_⟩
      refine ⟨_, _, rfl, rfl, cmul hpre.1 (ten_sz (by omega)), ?_⟩
      intro p_15 d_18 n_19 n_20 _
      refine ⟨p_15, d_18, _, _, rfl, upd_same, fun H_14 h_17 k_21 => ⟨rfl, ?_⟩⟩
      have s_16 := Same.made n_19 n_20 k_21
      exact leafR (u := ((number * (m_power_of_ten exponent)), (1))) k (Same.trans s_13 s_16) h_17 (by unfold m_times_ten_to; rw [if_neg c_1]; try rfl)
noncomputable def sp_read_size (K : PySem.W.Frag) (C R : Addr) : Sp := fun vs H Q E => ∃ (sc tp : Addr) (t : List UInt8) (p r : Nat), vs = [.ref sc] ∧ ScanAt C H sc tp p r ∧ SqL K H tp ((tI t).map V.int) ∧ (p ≤ t.length ∧ t.length ≤ 64 ∧ r ≤ 40) ∧ (∀ q : Nat, My.rSize t p r = .bad q → ∀ H' : Hp, SameX sc H H' → E (.int q 0) none H') ∧
  ∀ (x : Int × Int) (p' r' : Nat), My.rSize t p r = .ok x p' r' → ∀ (H' : Hp) (a : Addr), SameX sc H H' → ScanAt C H' sc tp p' r' → RatAt R H' a x.1 x.2 → Q (.ref a) H'
theorem bd_read_size (T : Txt K mg) : Binds K T.fd_read_size ["scan"] [] := T.F_read_size.binds (ps := ["scan"]) fun _ _ _ _ _ _ => on1 fun _ => rfl
theorem ok_read_size (T : Txt K mg) : FnOk P w K mg base (CXE P w T.a_NoNumber "place") 5 T.f_read_size T.fd_read_size ["scan"] (sp_read_size K T.a_Scan T.a_Ratio) := by
  refine T.F_read_size.okX sc_read_size (fun vs H Q E h => ?_) (fun cdv A outer s H vs Q E hr h => ?_)
  · obtain ⟨sc, tp, t, p, r, rfl, _⟩ := h
    rfl
  · obtain ⟨sc, tp, t, p, r, rfl, hs, hS, ⟨hp, hl, hr40⟩, kb, kk⟩ := h
    unfold My.rSize at kb kk
    refine ⟨_, (pss_cons (ps_set (i := 1) sc_read_size.nd rfl (Or.inl rfl) (pe_call (ok_read_digits T) (hr.mono (by decide)) rfl T.m_read_digits T.F_read_digits.kp (bd_read_digits T) .nil (lets_cx.passes rfl) (pa_cons (pv 0) pa_nil)))
      (pss_cons (ps_if (pt_val (pe_call (ok_passes_before_digit T) (hr.mono (by decide)) rfl T.m_passes_before_digit T.F_passes_before_digit.kp (bd_passes_before_digit T) .nil pass0 (pa_cons (pv 0) (pa_cons (pe_globE rfl T.c_SLASH) pa_nil)))) (pss_one (ps_ret (pe_make T.mk_Ratio (ok_Ratio_init T) (hr.mono (by decide)) rfl T.m_Ratio (bd_Ratio_init T) .nil pass0 (pa_cons (pe_call (ok_number_of T) (hr.mono (by decide)) rfl T.m_number_of T.F_number_of.kp (bd_number_of T) .nil pass0 (pa_cons (pv 1) pa_nil)) (pa_cons (pe_call (ok_read_divisor T) (hr.mono (by decide)) rfl T.m_read_divisor T.F_read_divisor.kp (bd_read_divisor T) .nil (lets_cx.passes rfl) (pa_cons (pv 0) pa_nil)) pa_nil))))) pss_nil)
      (pss_cons (ps_set (i := 2) sc_read_size.nd rfl (Or.inl rfl) (pe_ifExp (pt_val (pe_call (ok_passes_before_digit T) (hr.mono (by decide)) rfl T.m_passes_before_digit T.F_passes_before_digit.kp (bd_passes_before_digit T) .nil pass0 (pa_cons (pv 0) (pa_cons (pe_globE rfl T.c_POINT) pa_nil)))) (pe_call (ok_read_digits T) (hr.mono (by decide)) rfl T.m_read_digits T.F_read_digits.kp (bd_read_digits T) .nil (lets_cx.passes rfl) (pa_cons (pv 0) pa_nil)) (pe_lst pa_nil)))
      (pss_one (ps_ret (pe_call (ok_times_ten_to T) (hr.mono (by decide)) rfl T.m_times_ten_to T.F_times_ten_to.kp (bd_times_ten_to T) .nil pass0 (pa_cons (pe_call (ok_number_of T) (hr.mono (by decide)) rfl T.m_number_of T.F_number_of.kp (bd_number_of T) .nil pass0 (pa_cons (pe_op op_cat (pv 1) (pv 2)) pa_nil)) (pa_cons (pe_op op_sub (pe_call (ok_read_exponent T) (hr.mono (by decide)) rfl T.m_read_exponent T.F_read_exponent.kp (bd_read_exponent T) .nil (lets_cx.passes rfl) (pa_cons (pv 0) pa_nil)) (pe_callB call_lenI (by rfl) T.n_len (by decide +kernel) (pa_cons (pv 2) pa_nil))) pa_nil)))))))), ?_⟩
    refine ⟨_, rfl, sc, tp, t, p, r, rfl, hs, hS, ⟨hp, hl⟩, fun q e H1 s1 => ?_, fun d p1 r1 e H1 al s1 h1 l1 => ?_⟩
    · rw [e] at kb
      exact kb q rfl _ s1
    · rw [e] at kb kk
      dsimp only at kb kk
      obtain ⟨ed, ep, er, dl, d1⟩ := My.rDigits_ok e
      have dd : d.all Sh.isDigit = true := by rw [ed]; exact My.dgs_all _ _
      have p1l : p1 ≤ t.length := by
        have := My.dgs_len t p hp
        rw [← ed] at this
        omega
      refine ⟨_, rfl, sc, tp, t, p1, r1, 47, rfl, h1, s1.seq hs hS, fun H2 s2 h2 => ⟨_, rfl, ?_⟩⟩
      have l2 := s2.lst h1 l1
      have s02 := s1.trans s2
      by_cases c : 0 < r1 ∧ t[p1]? = some 47
      · rw [decide_eq_true c]
        rw [if_pos c] at h2 kb kk
        refine iteT ?_
        refine ⟨_, rfl, al, d, rfl, SqL.of l2, ⟨dd, by omega⟩, fun H3 s3 => ?_⟩
        have s03 := s02.trans (SameX.of s3)
        refine ⟨_, rfl, sc, tp, t, p1 + 1, r1, rfl, h2.keep s3, s03.seq hs hS, ⟨My.at_lt c.2, hl, c.1⟩, fun q e4 H4 s4 => ?_, fun n p4 r4 e4 H4 s4 h4 => ?_⟩
        · rw [e4] at kb
          exact kb q rfl _ (s03.trans s4)
        · rw [e4] at kk
          exact make_Ratio fun H5 a s5 h5 => kk _ _ _ rfl _ a (s03.trans (s4.trans (SameX.of s5))) (h4.keep s5) h5
      · rw [decide_eq_false c]
        rw [if_neg c] at h2 kb kk
        refine iteF ?_
        refine ⟨_, rfl, sc, tp, t, p1, r1, 46, rfl, h2, s02.seq hs hS, fun H3 s3 h3 => ⟨_, rfl, ?_⟩⟩
        have l3 := s3.lst h2 l2
        have s03 := s02.trans s3
        by_cases c2 : 0 < r1 ∧ t[p1]? = some 46
        · rw [decide_eq_true c2]
          rw [if_pos c2] at h3 kb kk
          refine iteT ?_
          refine ⟨_, rfl, sc, tp, t, p1 + 1, r1, rfl, h3, s03.seq hs hS, ⟨My.at_lt c2.2, hl⟩, fun q e4 H4 s4 => ?_, fun b p2 r2 e4 HA bl s4 hA bA => ?_⟩
          · rw [e4] at kb
            exact kb q rfl _ (s03.trans s4)
          · rw [e4] at kb kk
            dsimp only at kb kk
            obtain ⟨eb, _, _, blr, _⟩ := My.rDigits_ok e4
            have bd : b.all Sh.isDigit = true := by rw [eb]; exact My.dgs_all _ _
            have bl40 : d.length + b.length ≤ 40 := by omega
            replace l3 := s4.lst h3 l3
            replace s03 := s03.trans s4
            refine ⟨_, rfl, _, rfl, al, bl, _, _, rfl, rfl, l3, bA, ?_, fun cc hcc => ?_⟩
            · rw [tI_len, tI_len]; exact Nat.le_trans bl40 (by decide)
            have hcat : (upd HA cc (.lst ((tI d).map V.int ++ (tI b).map V.int))) cc = some (.lst ((tI (d ++ b)).map V.int)) := by rw [upd_same]; simp only [tI, List.map_append]
            have s04 : SameX sc H (upd HA cc (.lst ((tI d).map V.int ++ (tI b).map V.int))) := s03.trans (SameX.new hcc)
            have hB : ScanAt T.a_Scan (upd HA cc (.lst ((tI d).map V.int ++ (tI b).map V.int))) sc tp p2 r2 := hA.keep (Same.new hcc)
            have bB : (upd HA cc (.lst ((tI d).map V.int ++ (tI b).map V.int))) bl = some (.lst ((tI b).map V.int)) := Same.new hcc _ _ bA
            generalize upd HA cc (.lst ((tI d).map V.int ++ (tI b).map V.int)) = HB at *
            have ad : (d ++ b).all Sh.isDigit = true := by rw [List.all_append, dd, bd]; rfl
            refine ⟨cc, d ++ b, rfl, SqL.of hcat, ⟨ad, by rw [List.length_append]; omega⟩, fun H5 s5 => ?_⟩
            have s05 := s04.trans (SameX.of s5)
            unfold My.rTail at kb kk
            refine ⟨_, rfl, sc, tp, t, p2, r2, rfl, hB.keep s5, s05.seq hs hS, hl, fun q e6 H6 s6 => ?_, fun n p6 r6 e6 H6 s6 h6 => ?_⟩
            · rw [e6] at kb
              exact kb q rfl _ (s05.trans s6)
            · rw [e6] at kk
              have nb := My.rExp_bd e6
              refine ⟨_, rfl, bl, tI b, rfl, SqL.of (s6.lst (hB.keep s5) (s5 _ _ bB)), _, _, rfl, rfl, ?_⟩
              refine ⟨_, _, rfl, ⟨num_sz ad (by rw [List.length_append]; omega), by rw [List.length_map]; omega, by rw [List.length_map]; omega⟩, fun H7 a s7 h7 => ?_⟩
              rw [ten_is, List.length_map] at h7
              exact kk _ _ _ rfl _ a (s05.trans (s6.trans (SameX.of s7))) (h6.keep s7) h7
        · rw [decide_eq_false c2]
          rw [if_neg c2] at h3 kb kk
          refine iteF ?_
          refine ⟨(by decide), fun bl hbl => ?_⟩
          have bd : ([] : List UInt8).all Sh.isDigit = true := rfl
          have bl40 : d.length + ([] : List UInt8).length ≤ 40 := by simp only [List.length_nil]; omega
          have bA : (upd H3 bl (.lst [])) bl = some (.lst ((tI ([] : List UInt8)).map V.int)) := upd_same
          replace l3 : (upd H3 bl (.lst [])) al = some (.lst ((tI d).map V.int)) := Same.new hbl _ _ l3
          replace s03 : SameX sc H (upd H3 bl (.lst [])) := s03.trans (SameX.new hbl)
          have hA : ScanAt T.a_Scan (upd H3 bl (.lst [])) sc tp p1 r1 := h3.keep (Same.new hbl)
          generalize upd H3 bl (.lst []) = HA at *
          refine ⟨_, rfl, _, rfl, al, bl, _, _, rfl, rfl, l3, bA, ?_, fun cc hcc => ?_⟩
          · rw [tI_len, tI_len]; exact Nat.le_trans bl40 (by decide)
          have hcat : (upd HA cc (.lst ((tI d).map V.int ++ (tI ([] : List UInt8)).map V.int))) cc = some (.lst ((tI (d ++ ([] : List UInt8))).map V.int)) := by rw [upd_same]; simp only [tI, List.map_append]
          have s04 : SameX sc H (upd HA cc (.lst ((tI d).map V.int ++ (tI ([] : List UInt8)).map V.int))) := s03.trans (SameX.new hcc)
          have hB : ScanAt T.a_Scan (upd HA cc (.lst ((tI d).map V.int ++ (tI ([] : List UInt8)).map V.int))) sc tp p1 r1 := hA.keep (Same.new hcc)
          have bB : (upd HA cc (.lst ((tI d).map V.int ++ (tI ([] : List UInt8)).map V.int))) bl = some (.lst ((tI ([] : List UInt8)).map V.int)) := Same.new hcc _ _ bA
          generalize upd HA cc (.lst ((tI d).map V.int ++ (tI ([] : List UInt8)).map V.int)) = HB at *
          have ad : (d ++ ([] : List UInt8)).all Sh.isDigit = true := by rw [List.all_append, dd, bd]; rfl
          refine ⟨cc, d ++ ([] : List UInt8), rfl, SqL.of hcat, ⟨ad, by rw [List.length_append]; omega⟩, fun H5 s5 => ?_⟩
          have s05 := s04.trans (SameX.of s5)
          unfold My.rTail at kb kk
          refine ⟨_, rfl, sc, tp, t, p1, r1, rfl, hB.keep s5, s05.seq hs hS, hl, fun q e6 H6 s6 => ?_, fun n p6 r6 e6 H6 s6 h6 => ?_⟩
          · rw [e6] at kb
            exact kb q rfl _ (s05.trans s6)
          · rw [e6] at kk
            have nb := My.rExp_bd e6
            refine ⟨_, rfl, bl, tI ([] : List UInt8), rfl, SqL.of (s6.lst (hB.keep s5) (s5 _ _ bB)), _, _, rfl, rfl, ?_⟩
            refine ⟨_, _, rfl, ⟨num_sz ad (by rw [List.length_append]; omega), by rw [List.length_map]; omega, by rw [List.length_map]; omega⟩, fun H7 a s7 h7 => ?_⟩
            rw [ten_is, List.length_map] at h7
            exact kk _ _ _ rfl _ a (s05.trans (s6.trans (SameX.of s7))) (h6.keep s7) h7
noncomputable def sp_read_number (K : PySem.W.Frag) (R : Addr) : Sp := fun vs H Q E => ∃ (tp : Addr) (t : List UInt8), vs = [.ref tp] ∧ SqL K H tp ((tI t).map V.int) ∧ (t.length ≤ 64) ∧ (∀ q : Nat, My.rNumber t = .bad q → ∀ H' : Hp, Same H H' → E (.int q 0) none H') ∧
  ∀ (x : Int × Int) (p' r' : Nat), My.rNumber t = .ok x p' r' → ∀ (H' : Hp) (a : Addr), Same H H' → RatAt R H' a x.1 x.2 → Q (.ref a) H'
theorem bd_read_number (T : Txt K mg) : Binds K T.fd_read_number ["text"] [] := T.F_read_number.binds (ps := ["text"]) fun _ _ _ _ _ _ => on1 fun _ => rfl
theorem ok_read_number (T : Txt K mg) : FnOk P w K mg base (CXE P w T.a_NoNumber "place") 6 T.f_read_number T.fd_read_number ["text"] (sp_read_number K T.a_Ratio) := by
  refine T.F_read_number.okX sc_read_number (fun vs H Q E h => ?_) (fun cdv A outer s H vs Q E hr h => ?_)
  · obtain ⟨tp, t, rfl, _⟩ := h
    rfl
  · obtain ⟨tp, t, rfl, hS, hl, kb, kk⟩ := h
    unfold My.rNumber at kb kk
    refine ⟨_, (pss_cons (ps_set (i := 1) sc_read_number.nd rfl (Or.inl rfl) (pe_make T.mk_Scan (ok_Scan_init T) (hr.mono (by decide)) rfl T.m_Scan (bd_Scan_init T) .nil pass0 (pa_cons (pv 0) pa_nil)))
      (pss_cons (ps_set (i := 2) sc_read_number.nd rfl (Or.inl rfl) (pe_call (ok_passes T) (hr.mono (by decide)) rfl T.m_passes T.F_passes.kp (bd_passes T) .nil pass0 (pa_cons (pv 1) (pa_cons (pe_globE rfl T.c_MINUS) pa_nil))))
      (pss_cons (ps_set (i := 3) sc_read_number.nd rfl (Or.inl rfl) (pe_call (ok_read_size T) (hr.mono (by decide)) rfl T.m_read_size T.F_read_size.kp (bd_read_size T) .nil (lets_cx.passes rfl) (pa_cons (pv 1) pa_nil)))
      (pss_cons (ps_if (pt_cmpR op_lt (pe_fld (pv 1) rfl) (pe_callB call_lenI (by rfl) T.n_len (by decide +kernel) (pa_cons (pv 0) pa_nil)) (nomark _)) (pss_one (ps_raise lets_cx rfl T.xc_NoNumber (ok_NoNumber_init T) (hr.mono (by decide)) (bd_NoNumber_init T) rfl rfl T.m_NoNumber (pe_fld (pv 1) rfl))) pss_nil)
      (pss_one (ps_ret (pe_ifExp (pt_val (pv 2)) (pe_make T.mk_Ratio (ok_Ratio_init T) (hr.mono (by decide)) rfl T.m_Ratio (bd_Ratio_init T) .nil pass0 (pa_cons (pe_un un_neg (pe_fld (pv 3) rfl)) (pa_cons (pe_fld (pv 3) rfl) pa_nil))) (pv 3)))))))), ?_⟩
    refine ⟨_, rfl, ?_⟩
    intro sc d0 n1 m0 _
    refine ⟨sc, d0, tp, rfl, upd_same, fun H1 h1 k1 => ⟨rfl, ?_⟩⟩
    have s1 : Same H H1 := Same.made n1 m0 k1
    have out : ∀ {H' : Hp}, SameX sc H1 H' → Same H H' := fun sx b o e => sx b o (fun z => by rw [z, n1] at e; cases e) (s1 b o e)
    have hS1 := s1.seq hS
    refine ⟨_, rfl, sc, tp, t, 0, 40, 45, rfl, h1, hS1, fun H2 s2 h2 => ?_⟩
    rw [show (0 : Nat) + 1 = 1 from rfl] at h2
    refine ⟨_, rfl, sc, tp, t, _, 40, rfl, h2, s2.seq h1 hS1, ⟨?_, hl, Nat.le_refl _⟩, fun q e H3 s3 => ?_, fun x p3 r3 e H3 a s3 h3 ra => ?_⟩
    · by_cases c : t[0]? = some 45
      · rw [if_pos c]; exact My.at_lt c
      · rw [if_neg c]; exact Nat.zero_le _
    · rw [e] at kb
      exact kb q rfl _ (out (s2.trans s3))
    · rw [e] at kb kk
      dsimp only at kb kk
      have hS3 := (s2.trans s3).seq h1 hS1
      refine ⟨_, rfl, sc_place h3 T.cl_Scan T.na_Scan_place ⟨_, rfl, tp, tI t, rfl, hS3, _, _, rfl, rfl, _, rfl, ?_⟩⟩
      refine iteB (fun c => ?_) (fun c => ?_)
      · have c1 : p3 < t.length := by
          have := of_decide_eq_true c
          rw [List.length_map] at this
          omega
        rw [if_pos c1] at kb
        exact ⟨_, rfl, sc_place h3 T.cl_Scan T.na_Scan_place ⟨_, rfl, fun dx hd => kb _ rfl _ (out ((s2.trans s3).trans (SameX.new hd)))⟩⟩
      · have c1 : ¬ p3 < t.length := by
          have := of_decide_eq_false c
          rw [List.length_map] at this
          omega
        rw [if_neg c1] at kk
        refine ⟨_, rfl, _, rfl, ?_⟩
        by_cases c2 : t[0]? = some 45
        · rw [decide_eq_true c2]
          rw [if_pos c2] at kk
          refine iteT ?_
          exact ⟨_, rfl, fld_top ra T.cl_Ratio T.na_Ratio_top ⟨_, rfl, _, rfl, fld_bottom ra T.cl_Ratio T.na_Ratio_bottom (make_Ratio fun H4 a4 s4 h4 => kk _ _ _ rfl _ a4 (Same.trans (out (s2.trans s3)) s4) h4)⟩⟩
        · rw [decide_eq_false c2]
          rw [if_neg c2] at kk
          refine iteF ?_
          exact ⟨_, rfl, kk _ _ _ rfl _ a (out (s2.trans s3)) ra⟩
noncomputable def sp_steps_of : Sp := fun vs H Q _ => ∃ (c : Int) (r : Int), vs = [.int c, .int r] ∧ (m_is_format c = true) ∧ ∀ H' : Hp, Same H H' → Q (.int (m_steps_of c r)) H'
theorem bd_steps_of (T : Txt K mg) : Binds K T.fd_steps_of ["c", "r"] [] := T.F_steps_of.binds (ps := ["c", "r"]) fun _ _ _ _ _ _ => on2 fun _ _ => rfl
theorem ok_steps_of (T : Txt K mg) : FnOk P w K mg base CX0 3 T.f_steps_of T.fd_steps_of ["c", "r"] sp_steps_of := by
  refine T.F_steps_of.ok sc_steps_of (fun vs H Q E h => ?_) (fun cdv A outer s H vs Q E hr h => ?_)
  · obtain ⟨c, r, rfl, _⟩ := h
    rfl
  · obtain ⟨c, r, rfl, hpre, k⟩ := h
    refine ⟨_, (pss_cons (ps_if (PW.pt (pw_and (pt_cmpR op_eqI (pe_call (ok_kind_of T) (hr.mono (by decide)) rfl T.m_kind_of T.F_kind_of.kp (bd_kind_of T) .nil pass0 (pa_cons (pv 0) pa_nil)) (pe_globE rfl T.c_SIGNED) (nomark _)) (pw_and1 (pt_cmpR op_ge (pv 1) (pe_call (ok_sign_bit T) (hr.mono (by decide)) rfl T.m_sign_bit T.F_sign_bit.kp (bd_sign_bit T) .nil pass0 (pa_cons (pv 0) pa_nil)) (nomark _))))) (pss_one (ps_ret (pe_op op_sub (pv 1) (pe_op op_shlB pe_int (pe_call (ok_width_of T) (hr.mono (by decide)) rfl T.m_width_of T.F_width_of.kp (bd_width_of T) .nil pass0 (pa_cons (pv 0) pa_nil)))))) pss_nil)
      (pss_one (ps_ret (pv 1)))), ?_⟩
    refine ⟨_, rfl, _, rfl, trivial, fun H_1 s_2 => ?_⟩
    refine ⟨_, _, rfl, rfl, _, rfl, ?_⟩
    refine iteB (fun c_3 => ?_) (fun c_3 => ?_)
    · replace c_3 : ((m_kind_of c) = (1)) := of_decide_eq_true c_3
      refine ⟨_, rfl, _, rfl, _, rfl, (isf_pos hpre), fun H_4 s_5 => ?_⟩
      refine ⟨_, _, rfl, rfl, _, rfl, ?_⟩
      refine iteB (fun c_6 => ?_) (fun c_6 => ?_)
      · replace c_6 : ((m_sign_bit c) ≤ r) := of_decide_eq_true c_6
        refine ⟨_, rfl, _, rfl, _, rfl, trivial, fun H_7 s_8 => ?_⟩
        refine ⟨_, _, rfl, rfl, cshl (width_nn c) (m := 1) (by decide) (by have := width_lt c; omega), _, _, rfl, rfl, ?_⟩
        exact leaf k (Same.trans (Same.trans s_2 s_5) s_8) (congrArg V.int (by unfold m_steps_of; rw [if_pos c_3, if_pos c_6]; try rfl))
      · replace c_6 : ¬ ((m_sign_bit c) ≤ r) := of_decide_eq_false c_6
        refine ⟨_, rfl, ?_⟩
        exact leaf k (Same.trans s_2 s_5) (congrArg V.int (by unfold m_steps_of; rw [if_pos c_3, if_neg c_6]; try rfl))
    · replace c_3 : ¬ ((m_kind_of c) = (1)) := of_decide_eq_false c_3
      refine iteF ?_
      refine ⟨_, rfl, ?_⟩
      exact leaf k s_2 (congrArg V.int (by unfold m_steps_of; rw [if_neg c_3]; try rfl))
noncomputable def sp_is_mode : Sp := fun vs H Q _ => ∃ (mode : Int), vs = [.int mode] ∧ (True) ∧ ∀ H' : Hp, Same H H' → Q (.bl (m_is_mode mode)) H'
theorem bd_is_mode (T : Txt K mg) : Binds K T.fd_is_mode ["mode"] [] := T.F_is_mode.binds (ps := ["mode"]) fun _ _ _ _ _ _ => on1 fun _ => rfl
theorem ok_is_mode (T : Txt K mg) : FnOk P w K mg base CX0 1 T.f_is_mode T.fd_is_mode ["mode"] sp_is_mode := by
  refine T.F_is_mode.ok sc_is_mode (fun vs H Q E h => ?_) (fun cdv A outer s H vs Q E hr h => ?_)
  · obtain ⟨mode, rfl, _⟩ := h
    rfl
  · obtain ⟨mode, rfl, hpre, k⟩ := h
    refine ⟨_, (pss_one (ps_ret (pe_chain op_le op_le (pe_globE rfl T.c_NEAREST_EVEN) (pv 0) (pe_globE rfl T.c_NEAREST_FAR)))), ?_⟩
    refine ⟨_, rfl, _, _, rfl, rfl, _, rfl, ?_⟩
    refine iteB (fun c_1 => ?_) (fun c_1 => ?_)
    · replace c_1 : ((0) ≤ mode) := of_decide_eq_true c_1
      refine ⟨_, _, rfl, rfl, ?_⟩
      exact leaf k Same.refl2 (congrArg V.bl (by unfold m_is_mode; rw [if_pos c_1]; try rfl))
    · replace c_1 : ¬ ((0) ≤ mode) := of_decide_eq_false c_1
      exact leaf k Same.refl2 (congrArg V.bl (by unfold m_is_mode; rw [if_neg c_1]; try rfl))
noncomputable def sp_in_steps (C : Addr) : Sp := fun vs H Q _ => ∃ (x_p : Addr) (x_t x_b : Int) (place : Int), vs = [.ref x_p, .int place] ∧ RatAt C H x_p x_t x_b ∧ (RB x_t x_b ∧ -20000 ≤ place ∧ place ≤ 20000) ∧ ∀ (H' : Hp) (p : Addr), Same H H' → RatAt C H' p (m_in_steps x_t x_b place).1 (m_in_steps x_t x_b place).2 → Q (.ref p) H'
theorem bd_in_steps (T : Txt K mg) : Binds K T.fd_in_steps ["x", "place"] [] := T.F_in_steps.binds (ps := ["x", "place"]) fun _ _ _ _ _ _ => on2 fun _ _ => rfl
theorem ok_in_steps (T : Txt K mg) : FnOk P w K mg base CX0 3 T.f_in_steps T.fd_in_steps ["x", "place"] (sp_in_steps T.a_Ratio) := by
  refine T.F_in_steps.ok sc_in_steps (fun vs H Q E h => ?_) (fun cdv A outer s H vs Q E hr h => ?_)
  · obtain ⟨x_p, x_t, x_b, place, rfl, _⟩ := h
    rfl
  · obtain ⟨x_p, x_t, x_b, place, rfl, h_x, hpre, k⟩ := h
    refine ⟨_, (pss_cons (ps_if (pt_cmpR op_ge (pv 1) pe_int (nomark _)) (pss_one (ps_ret (pe_make T.mk_Ratio (ok_Ratio_init T) (hr.mono (by decide)) rfl T.m_Ratio (bd_Ratio_init T) .nil pass0 (pa_cons (pe_callB call_abs (by rfl) T.n_abs (by decide +kernel) (pa_cons (pe_fld (pv 0) rfl) pa_nil)) (pa_cons (pe_op op_shlB (pe_fld (pv 0) rfl) (pv 1)) pa_nil))))) pss_nil)
      (pss_one (ps_ret (pe_make T.mk_Ratio (ok_Ratio_init T) (hr.mono (by decide)) rfl T.m_Ratio (bd_Ratio_init T) .nil pass0 (pa_cons (pe_op op_shlB (pe_callB call_abs (by rfl) T.n_abs (by decide +kernel) (pa_cons (pe_fld (pv 0) rfl) pa_nil)) (pe_un un_neg (pv 1))) (pa_cons (pe_fld (pv 0) rfl) pa_nil)))))), ?_⟩
    refine ⟨_, rfl, _, _, rfl, rfl, _, rfl, ?_⟩
    refine iteB (fun c_1 => ?_) (fun c_1 => ?_)
    · replace c_1 : ((0) ≤ place) := of_decide_eq_true c_1
      refine ⟨_, rfl, fld_top h_x T.cl_Ratio T.na_Ratio_top ?_⟩
      refine ⟨_, rfl, _, rfl, fld_bottom h_x T.cl_Ratio T.na_Ratio_bottom ?_⟩
      refine ⟨_, rfl, _, _, rfl, rfl, cshl (by assumption) hpre.1.2.1 (by omega), ?_⟩
      intro p_3 d_6 n_7 n_8 _
      refine ⟨p_3, d_6, _, _, rfl, upd_same, fun H_2 h_5 k_9 => ⟨rfl, ?_⟩⟩
      have s_4 := Same.made n_7 n_8 k_9
      exact leafR (u := ((absI x_t), (x_b * 2 ^ (place : Int).toNat))) k s_4 h_5 (by unfold m_in_steps; rw [if_pos c_1]; try rfl)
    · replace c_1 : ¬ ((0) ≤ place) := of_decide_eq_false c_1
      refine ⟨_, rfl, fld_top h_x T.cl_Ratio T.na_Ratio_top ?_⟩
      refine ⟨_, rfl, _, rfl, _, rfl, _, _, rfl, rfl, cshl (by omega) hpre.1.2.2.abs (by omega), _, rfl, fld_bottom h_x T.cl_Ratio T.na_Ratio_bottom ?_⟩
      intro p_11 d_14 n_15 n_16 _
      refine ⟨p_11, d_14, _, _, rfl, upd_same, fun H_10 h_13 k_17 => ⟨rfl, ?_⟩⟩
      have s_12 := Same.made n_15 n_16 k_17
      exact leafR (u := (((absI x_t) * 2 ^ ((-place) : Int).toNat), x_b)) k s_12 h_13 (by unfold m_in_steps; rw [if_neg c_1]; try rfl)
noncomputable def sp_leading_place (C : Addr) : Sp := fun vs H Q _ => ∃ (x_p : Addr) (x_t x_b : Int), vs = [.ref x_p] ∧ RatAt C H x_p x_t x_b ∧ (RB x_t x_b) ∧ ∀ H' : Hp, Same H H' → Q (.int (m_leading_place x_t x_b)) H'
theorem bd_leading_place (T : Txt K mg) : Binds K T.fd_leading_place ["x"] [] := T.F_leading_place.binds (ps := ["x"]) fun _ _ _ _ _ _ => on1 fun _ => rfl
theorem ok_leading_place (T : Txt K mg) : FnOk P w K mg base CX0 4 T.f_leading_place T.fd_leading_place ["x"] (sp_leading_place T.a_Ratio) := by
  refine T.F_leading_place.ok sc_leading_place (fun vs H Q E h => ?_) (fun cdv A outer s H vs Q E hr h => ?_)
  · obtain ⟨x_p, x_t, x_b, rfl, _⟩ := h
    rfl
  · obtain ⟨x_p, x_t, x_b, rfl, h_x, hpre, k⟩ := h
    refine ⟨_, (pss_cons (ps_set (i := 1) sc_leading_place.nd rfl (Or.inl rfl) (pe_op op_sub (pe_bm0 PySem.F.plainAttrs_int PySem.F.slot_int_bit_length PySem.F.type_int_bit_length mt_bits (pe_callB call_abs (by rfl) T.n_abs (by decide +kernel) (pa_cons (pe_fld (pv 0) rfl) pa_nil))) (pe_bm0 PySem.F.plainAttrs_int PySem.F.slot_int_bit_length PySem.F.type_int_bit_length mt_bits (pe_fld (pv 0) rfl))))
      (pss_cons (ps_set (i := 2) sc_leading_place.nd rfl (Or.inl rfl) (pe_call (ok_in_steps T) (hr.mono (by decide)) rfl T.m_in_steps T.F_in_steps.kp (bd_in_steps T) .nil pass0 (pa_cons (pv 0) (pa_cons (pv 1) pa_nil))))
      (pss_one (ps_ret (pe_ifExp (pt_cmpR op_ge (pe_fld (pv 2) rfl) (pe_fld (pv 2) rfl) (nomark _)) (pv 1) (pe_op op_sub (pv 1) pe_int)))))), ?_⟩
    refine ⟨_, rfl, fld_top h_x T.cl_Ratio T.na_Ratio_top ?_⟩
    refine ⟨_, rfl, rfl, _, rfl, rfl, _, rfl, fld_bottom h_x T.cl_Ratio T.na_Ratio_bottom ?_⟩
    refine ⟨rfl, _, rfl, rfl, _, _, rfl, rfl, _, rfl, _, rfl, _, _, _, _, rfl, h_x, ⟨hpre, (lead_pre hpre).1, (lead_pre hpre).2⟩, fun H_1 p_3 s_2 h_4 => ?_⟩
    refine ⟨_, rfl, fld_top h_4 T.cl_Ratio T.na_Ratio_top ?_⟩
    refine ⟨_, rfl, fld_bottom h_4 T.cl_Ratio T.na_Ratio_bottom ?_⟩
    refine ⟨_, _, rfl, rfl, _, rfl, ?_⟩
    refine iteB (fun c_5 => ?_) (fun c_5 => ?_)
    · replace c_5 : ((m_in_steps x_t x_b ((bitsI (absI x_t)) - (bitsI x_b))).2 ≤ (m_in_steps x_t x_b ((bitsI (absI x_t)) - (bitsI x_b))).1) := of_decide_eq_true c_5
      refine ⟨_, rfl, ?_⟩
      exact leaf k s_2 (congrArg V.int (by unfold m_leading_place; rw [if_pos c_5]; try rfl))
    · replace c_5 : ¬ ((m_in_steps x_t x_b ((bitsI (absI x_t)) - (bitsI x_b))).2 ≤ (m_in_steps x_t x_b ((bitsI (absI x_t)) - (bitsI x_b))).1) := of_decide_eq_false c_5
      refine ⟨_, rfl, _, _, rfl, rfl, ?_⟩
      exact leaf k s_2 (congrArg V.int (by unfold m_leading_place; rw [if_neg c_5]; try rfl))
noncomputable def sp_quarters (C : Addr) : Sp := fun vs H Q _ => ∃ (x_p : Addr) (x_t x_b : Int) (place : Int), vs = [.ref x_p, .int place] ∧ RatAt C H x_p x_t x_b ∧ (RB x_t x_b ∧ -20000 ≤ place ∧ place ≤ 20000 ∧ Sz 9000 (x_b * 2 ^ place.toNat)) ∧ ∀ H' : Hp, Same H H' → Q (.int (m_quarters x_t x_b place)) H'
theorem bd_quarters (T : Txt K mg) : Binds K T.fd_quarters ["x", "place"] [] := T.F_quarters.binds (ps := ["x", "place"]) fun _ _ _ _ _ _ => on2 fun _ _ => rfl
theorem ok_quarters (T : Txt K mg) : FnOk P w K mg base CX0 4 T.f_quarters T.fd_quarters ["x", "place"] (sp_quarters T.a_Ratio) := by
  refine T.F_quarters.ok sc_quarters (fun vs H Q E h => ?_) (fun cdv A outer s H vs Q E hr h => ?_)
  · obtain ⟨x_p, x_t, x_b, place, rfl, _⟩ := h
    rfl
  · obtain ⟨x_p, x_t, x_b, place, rfl, h_x, hpre, k⟩ := h
    obtain ⟨s1, s2, s3, s4⟩ := steps_sz hpre.1 hpre.2.1 hpre.2.2.1
    have hv := halves_sz hpre.1 hpre.2.1 hpre.2.2.1
    have s9 : Sz 9000 (m_in_steps x_t x_b place).2 := by rw [in_steps_eq]; exact hpre.2.2.2
    refine ⟨_, (pss_cons (ps_set (i := 2) sc_quarters.nd rfl (Or.inl rfl) (pe_call (ok_in_steps T) (hr.mono (by decide)) rfl T.m_in_steps T.F_in_steps.kp (bd_in_steps T) .nil pass0 (pa_cons (pv 0) (pa_cons (pv 1) pa_nil))))
      (pss_cons (ps_set (i := 3) sc_quarters.nd rfl (Or.inl rfl) (pe_op op_fdivB (pe_op op_mulB pe_int (pe_fld (pv 2) rfl)) (pe_fld (pv 2) rfl)))
      (pss_one (ps_ret (pe_op op_add (pe_op op_mulB pe_int (pv 3)) (pe_ifExp (pt_cmpR op_eqI (pe_op op_mulB (pv 3) (pe_fld (pv 2) rfl)) (pe_op op_mulB pe_int (pe_fld (pv 2) rfl)) (nomark _)) pe_int pe_int)))))), ?_⟩
    refine ⟨_, rfl, _, rfl, _, _, _, _, rfl, h_x, ⟨hpre.1, hpre.2.1, hpre.2.2.1⟩, fun H_1 p_3 s_2 h_4 => ?_⟩
    refine ⟨_, rfl, fld_top h_4 T.cl_Ratio T.na_Ratio_top ?_⟩
    refine ⟨_, _, rfl, rfl, cmul (m := 2) (by decide) s1, _, rfl, fld_bottom h_4 T.cl_Ratio T.na_Ratio_bottom ?_⟩
    refine ⟨_, _, rfl, rfl, cdiv s3 s9, _, rfl, _, _, rfl, rfl, cmul (m := 2) (by decide) hv, _, rfl, _, rfl, fld_bottom h_4 T.cl_Ratio T.na_Ratio_bottom ?_⟩
    refine ⟨_, _, rfl, rfl, cmul hv s2, _, rfl, fld_top h_4 T.cl_Ratio T.na_Ratio_top ?_⟩
    refine ⟨_, _, rfl, rfl, cmul (m := 2) (by decide) s1, _, _, rfl, rfl, _, rfl, ?_⟩
    refine iteB (fun c_5 => ?_) (fun c_5 => ?_)
    · replace c_5 : (((((2) * (m_in_steps x_t x_b place).1) / (m_in_steps x_t x_b place).2) * (m_in_steps x_t x_b place).2) = ((2) * (m_in_steps x_t x_b place).1)) := of_decide_eq_true c_5
      refine ⟨_, _, rfl, rfl, ?_⟩
      exact leaf k s_2 (congrArg V.int (by unfold m_quarters; rw [if_pos c_5]; try rfl))
    · replace c_5 : ¬ (((((2) * (m_in_steps x_t x_b place).1) / (m_in_steps x_t x_b place).2) * (m_in_steps x_t x_b place).2) = ((2) * (m_in_steps x_t x_b place).1)) := of_decide_eq_false c_5
      refine ⟨_, _, rfl, rfl, ?_⟩
      exact leaf k s_2 (congrArg V.int (by unfold m_quarters; rw [if_neg c_5]; try rfl))
noncomputable def sp_is_whole : Sp := fun vs H Q _ => ∃ (size : Int), vs = [.int size] ∧ (True) ∧ ∀ H' : Hp, Same H H' → Q (.bl (m_is_whole size)) H'
theorem bd_is_whole (T : Txt K mg) : Binds K T.fd_is_whole ["size"] [] := T.F_is_whole.binds (ps := ["size"]) fun _ _ _ _ _ _ => on1 fun _ => rfl
theorem ok_is_whole (T : Txt K mg) : FnOk P w K mg base CX0 1 T.f_is_whole T.fd_is_whole ["size"] sp_is_whole := by
  refine T.F_is_whole.ok sc_is_whole (fun vs H Q E h => ?_) (fun cdv A outer s H vs Q E hr h => ?_)
  · obtain ⟨size, rfl, _⟩ := h
    rfl
  · obtain ⟨size, rfl, hpre, k⟩ := h
    refine ⟨_, (pss_one (ps_ret (pe_cmpR op_eqI (pe_op op_mod (pv 0) pe_int) pe_int (nomark _)))), ?_⟩
    refine ⟨_, rfl, _, _, rfl, rfl, (by show (0 : Int) < _; decide), _, _, rfl, rfl, ?_⟩
    exact leaf k Same.refl2 (congrArg V.bl (rfl))
noncomputable def sp_goes_far : Sp := fun vs H Q _ => ∃ (size : Int) (mode : Int) (below : Bool), vs = [.int size, .int mode, .bl below] ∧ (True) ∧ ∀ H' : Hp, Same H H' → Q (.bl (m_goes_far size mode below)) H'
theorem bd_goes_far (T : Txt K mg) : Binds K T.fd_goes_far ["size", "mode", "below"] [] := T.F_goes_far.binds (ps := ["size", "mode", "below"]) fun _ _ _ _ _ _ => on3 fun _ _ _ => rfl
theorem ok_goes_far (T : Txt K mg) : FnOk P w K mg base CX0 1 T.f_goes_far T.fd_goes_far ["size", "mode", "below"] sp_goes_far := by
  refine T.F_goes_far.ok sc_goes_far (fun vs H Q E h => ?_) (fun cdv A outer s H vs Q E hr h => ?_)
  · obtain ⟨size, mode, below, rfl, _⟩ := h
    rfl
  · obtain ⟨size, mode, below, rfl, hpre, k⟩ := h
    refine ⟨_, (pss_cons (ps_if (pt_cmpR op_eqI (pv 1) (pe_globE rfl T.c_TOWARD_NOUGHT) (nomark _)) (pss_one (ps_ret pe_bl)) pss_nil)
      (pss_cons (ps_if (pt_cmpR op_eqI (pv 1) (pe_globE rfl T.c_UP) (nomark _)) (pss_one (ps_ret (pe_not (pv 2)))) pss_nil)
      (pss_cons (ps_if (pt_cmpR op_eqI (pv 1) (pe_globE rfl T.c_DOWN) (nomark _)) (pss_one (ps_ret (pv 2))) pss_nil)
      (pss_cons (ps_if (pt_cmpR op_neI (pe_op op_mod (pv 0) pe_int) pe_int (nomark _)) (pss_one (ps_ret (pe_cmpR op_eqI (pe_op op_mod (pv 0) pe_int) pe_int (nomark _)))) pss_nil)
      (pss_one (ps_ret (pe_or (pe_cmpR op_eqI (pv 1) (pe_globE rfl T.c_NEAREST_FAR) (nomark _)) (pe_one (pe_cmpR op_eqI (pe_op op_mod (pe_op op_fdivB (pv 0) pe_int) pe_int) pe_int (nomark _)))))))))), ?_⟩
    refine ⟨_, rfl, _, _, rfl, rfl, _, rfl, ?_⟩
    refine iteB (fun c_1 => ?_) (fun c_1 => ?_)
    · replace c_1 : (mode = (1)) := of_decide_eq_true c_1
      exact leaf k Same.refl2 (congrArg V.bl (by unfold m_goes_far; rw [if_pos c_1]; try rfl))
    · replace c_1 : ¬ (mode = (1)) := of_decide_eq_false c_1
      refine ⟨_, rfl, _, _, rfl, rfl, _, rfl, ?_⟩
      refine iteB (fun c_2 => ?_) (fun c_2 => ?_)
      · replace c_2 : (mode = (2)) := of_decide_eq_true c_2
        refine ⟨_, rfl, _, rfl, ?_⟩
        exact leaf k Same.refl2 (congrArg V.bl (by unfold m_goes_far; rw [if_neg c_1, if_pos c_2]; try rfl))
      · replace c_2 : ¬ (mode = (2)) := of_decide_eq_false c_2
        refine ⟨_, rfl, _, _, rfl, rfl, _, rfl, ?_⟩
        refine iteB (fun c_3 => ?_) (fun c_3 => ?_)
        · replace c_3 : (mode = (3)) := of_decide_eq_true c_3
          refine ⟨_, rfl, ?_⟩
          exact leaf k Same.refl2 (congrArg V.bl (by unfold m_goes_far; rw [if_neg c_1, if_neg c_2, if_pos c_3]; try rfl))
        · replace c_3 : ¬ (mode = (3)) := of_decide_eq_false c_3
          refine ⟨_, rfl, _, _, rfl, rfl, (by show (0 : Int) < _; decide), _, _, rfl, rfl, _, rfl, ?_⟩
          refine iteB (fun c_4 => ?_) (fun c_4 => ?_)
          · replace c_4 : (¬ (size % (4)) = (2)) := of_decide_eq_true c_4
            refine ⟨_, rfl, _, _, rfl, rfl, (by show (0 : Int) < _; decide), _, _, rfl, rfl, ?_⟩
            exact leaf k Same.refl2 (congrArg V.bl (by unfold m_goes_far; rw [if_neg c_1, if_neg c_2, if_neg c_3, if_pos c_4]; try rfl))
          · replace c_4 : ¬ (¬ (size % (4)) = (2)) := of_decide_eq_false c_4
            refine ⟨_, rfl, _, _, rfl, rfl, _, rfl, ?_⟩
            refine iteB (fun c_5 => ?_) (fun c_5 => ?_)
            · replace c_5 : (mode = (4)) := of_decide_eq_true c_5
              exact leaf k Same.refl2 (congrArg V.bl (by unfold m_goes_far; rw [if_neg c_1, if_neg c_2, if_neg c_3, if_neg c_4, if_pos c_5]; try rfl))
            · replace c_5 : ¬ (mode = (4)) := of_decide_eq_false c_5
              refine ⟨_, rfl, _, _, rfl, rfl, ⟨by decide, by decide⟩, _, _, rfl, rfl, (by show (0 : Int) < _; decide), _, _, rfl, rfl, ?_⟩
              exact leaf k Same.refl2 (congrArg V.bl (by unfold m_goes_far; rw [if_neg c_1, if_neg c_2, if_neg c_3, if_neg c_4, if_neg c_5]; try rfl))
noncomputable def sp_rounded : Sp := fun vs H Q _ => ∃ (size : Int) (mode : Int) (below : Bool), vs = [.int size, .int mode, .bl below] ∧ (True) ∧ ∀ H' : Hp, Same H H' → Q (.int (m_rounded size mode below)) H'
theorem bd_rounded (T : Txt K mg) : Binds K T.fd_rounded ["size", "mode", "below"] [] := T.F_rounded.binds (ps := ["size", "mode", "below"]) fun _ _ _ _ _ _ => on3 fun _ _ _ => rfl
theorem ok_rounded (T : Txt K mg) : FnOk P w K mg base CX0 2 T.f_rounded T.fd_rounded ["size", "mode", "below"] sp_rounded := by
  refine T.F_rounded.ok sc_rounded (fun vs H Q E h => ?_) (fun cdv A outer s H vs Q E hr h => ?_)
  · obtain ⟨size, mode, below, rfl, _⟩ := h
    rfl
  · obtain ⟨size, mode, below, rfl, hpre, k⟩ := h
    refine ⟨_, (pss_cons (ps_if (PW.pt (pw_or (pt_val (pe_call (ok_is_whole T) (hr.mono (by decide)) rfl T.m_is_whole T.F_is_whole.kp (bd_is_whole T) .nil pass0 (pa_cons (pv 0) pa_nil))) (pw_or1 (pt_not (pt_val (pe_call (ok_goes_far T) (hr.mono (by decide)) rfl T.m_goes_far T.F_goes_far.kp (bd_goes_far T) .nil pass0 (pa_cons (pv 0) (pa_cons (pv 1) (pa_cons (pv 2) pa_nil))))))))) (pss_one (ps_ret (pe_op op_fdivB (pv 0) pe_int))) pss_nil)
      (pss_one (ps_ret (pe_op op_add (pe_op op_fdivB (pv 0) pe_int) pe_int)))), ?_⟩
    refine ⟨_, rfl, _, rfl, trivial, fun H_1 s_2 => ?_⟩
    refine ⟨_, rfl, ?_⟩
    refine iteB (fun c_3 => ?_) (fun c_3 => ?_)
    · replace c_3 : ((m_is_whole size) = true) := c_3
      refine iteT ?_
      refine ⟨_, rfl, _, _, rfl, rfl, ⟨by decide, by decide⟩, ?_⟩
      exact leaf k s_2 (congrArg V.int (by unfold m_rounded; rw [if_pos c_3]; try rfl))
    · replace c_3 : ¬ ((m_is_whole size) = true) := ne_true_of_eq_false c_3
      refine ⟨_, rfl, _, rfl, _, rfl, _, _, _, rfl, trivial, fun H_4 s_5 => ?_⟩
      refine ⟨_, rfl, ?_⟩
      refine iteB (fun c_6 => ?_) (fun c_6 => ?_)
      · replace c_6 : ¬ ((m_goes_far size mode below) = true) := ne_true_of_eq_false (not_t c_6)
        refine ⟨_, rfl, _, _, rfl, rfl, ⟨by decide, by decide⟩, ?_⟩
        exact leaf k (Same.trans s_2 s_5) (congrArg V.int (by unfold m_rounded; rw [if_neg c_3, if_neg c_6]; try rfl))
      · replace c_6 : ((m_goes_far size mode below) = true) := (not_f c_6)
        refine ⟨_, rfl, _, _, rfl, rfl, ⟨by decide, by decide⟩, _, _, rfl, rfl, ?_⟩
        exact leaf k (Same.trans s_2 s_5) (congrArg V.int (by unfold m_rounded; rw [if_neg c_3, if_pos c_6]; try rfl))
noncomputable def sp_mode_of : Sp := fun vs H Q _ => ∃ (how : Int), vs = [.int how] ∧ (True) ∧ ∀ H' : Hp, Same H H' → Q (.int (m_mode_of how)) H'
theorem bd_mode_of (T : Txt K mg) : Binds K T.fd_mode_of ["how"] [] := T.F_mode_of.binds (ps := ["how"]) fun _ _ _ _ _ _ => on1 fun _ => rfl
theorem ok_mode_of (T : Txt K mg) : FnOk P w K mg base CX0 1 T.f_mode_of T.fd_mode_of ["how"] sp_mode_of := by
  refine T.F_mode_of.ok sc_mode_of (fun vs H Q E h => ?_) (fun cdv A outer s H vs Q E hr h => ?_)
  · obtain ⟨how, rfl, _⟩ := h
    rfl
  · obtain ⟨how, rfl, hpre, k⟩ := h
    refine ⟨_, (pss_one (ps_ret (pe_op op_mod (pv 0) pe_int))), ?_⟩
    refine ⟨_, rfl, _, _, rfl, rfl, (by show (0 : Int) < _; decide), ?_⟩
    exact leaf k Same.refl2 (congrArg V.int (rfl))
noncomputable def sp_holds : Sp := fun vs H Q _ => ∃ (how : Int), vs = [.int how] ∧ (True) ∧ ∀ H' : Hp, Same H H' → Q (.bl (m_holds how)) H'
theorem bd_holds (T : Txt K mg) : Binds K T.fd_holds ["how"] [] := T.F_holds.binds (ps := ["how"]) fun _ _ _ _ _ _ => on1 fun _ => rfl
theorem ok_holds (T : Txt K mg) : FnOk P w K mg base CX0 1 T.f_holds T.fd_holds ["how"] sp_holds := by
  refine T.F_holds.ok sc_holds (fun vs H Q E h => ?_) (fun cdv A outer s H vs Q E hr h => ?_)
  · obtain ⟨how, rfl, _⟩ := h
    rfl
  · obtain ⟨how, rfl, hpre, k⟩ := h
    refine ⟨_, (pss_one (ps_ret (pe_cmpR op_ge (pv 0) pe_int (nomark _)))), ?_⟩
    refine ⟨_, rfl, _, _, rfl, rfl, ?_⟩
    exact leaf k Same.refl2 (congrArg V.bl (rfl))
noncomputable def sp_may_put : Sp := fun vs H Q _ => ∃ (f : Int) (how : Int), vs = [.int f, .int how] ∧ (True) ∧ ∀ H' : Hp, Same H H' → Q (.bl (m_may_put f how)) H'
theorem bd_may_put (T : Txt K mg) : Binds K T.fd_may_put ["f", "how"] [] := T.F_may_put.binds (ps := ["f", "how"]) fun _ _ _ _ _ _ => on2 fun _ _ => rfl
theorem ok_may_put (T : Txt K mg) : FnOk P w K mg base CX0 3 T.f_may_put T.fd_may_put ["f", "how"] sp_may_put := by
  refine T.F_may_put.ok sc_may_put (fun vs H Q E h => ?_) (fun cdv A outer s H vs Q E hr h => ?_)
  · obtain ⟨f, how, rfl, _⟩ := h
    rfl
  · obtain ⟨f, how, rfl, hpre, k⟩ := h
    refine ⟨_, (pss_cons (ps_if (pt_not (PW.pt (pw_and (pt_val (pe_call (ok_is_format T) (hr.mono (by decide)) rfl T.m_is_format T.F_is_format.kp (bd_is_format T) .nil pass0 (pa_cons (pv 0) pa_nil))) (pw_and (pt_chain op_le op_le pe_int (pv 1) pe_int) (pw_and1 (pt_val (pe_call (ok_is_mode T) (hr.mono (by decide)) rfl T.m_is_mode T.F_is_mode.kp (bd_is_mode T) .nil pass0 (pa_cons (pe_call (ok_mode_of T) (hr.mono (by decide)) rfl T.m_mode_of T.F_mode_of.kp (bd_mode_of T) .nil pass0 (pa_cons (pv 1) pa_nil)) pa_nil)))))))) (pss_one (ps_ret pe_bl)) pss_nil)
      (pss_one (ps_ret (pe_or (pe_cmpR op_neI (pe_call (ok_kind_of T) (hr.mono (by decide)) rfl T.m_kind_of T.F_kind_of.kp (bd_kind_of T) .nil pass0 (pa_cons (pv 0) pa_nil)) (pe_globE rfl T.c_FLOAT) (nomark _)) (pe_one (pe_call (ok_holds T) (hr.mono (by decide)) rfl T.m_holds T.F_holds.kp (bd_holds T) .nil pass0 (pa_cons (pv 1) pa_nil))))))), ?_⟩
    refine ⟨_, rfl, _, rfl, trivial, fun H_1 s_2 => ?_⟩
    refine ⟨_, rfl, ?_⟩
    refine iteB (fun c_3 => ?_) (fun c_3 => ?_)
    · replace c_3 : ((m_is_format f) = true) := c_3
      refine ⟨_, rfl, _, _, rfl, rfl, _, rfl, ?_⟩
      refine iteB (fun c_4 => ?_) (fun c_4 => ?_)
      · replace c_4 : ((0) ≤ how) := of_decide_eq_true c_4
        refine ⟨_, _, rfl, rfl, _, rfl, ?_⟩
        refine iteB (fun c_5 => ?_) (fun c_5 => ?_)
        · replace c_5 : (how ≤ (15)) := of_decide_eq_true c_5
          refine ⟨_, rfl, _, rfl, trivial, fun H_6 s_7 => ?_⟩
          refine ⟨_, rfl, trivial, fun H_8 s_9 => ?_⟩
          refine ⟨_, rfl, ?_⟩
          refine iteB (fun c_10 => ?_) (fun c_10 => ?_)
          · replace c_10 : ¬ ((m_is_mode (m_mode_of how)) = true) := ne_true_of_eq_false (not_t c_10)
            exact leaf k (Same.trans (Same.trans s_2 s_7) s_9) (congrArg V.bl (by unfold m_may_put; rw [if_pos c_3, if_pos c_4, if_pos c_5, if_neg c_10]; try rfl))
          · replace c_10 : ((m_is_mode (m_mode_of how)) = true) := (not_f c_10)
            refine ⟨_, rfl, _, rfl, trivial, fun H_11 s_12 => ?_⟩
            refine ⟨_, _, rfl, rfl, _, rfl, ?_⟩
            refine iteB (fun c_13 => ?_) (fun c_13 => ?_)
            · replace c_13 : (¬ (m_kind_of f) = (3)) := of_decide_eq_true c_13
              exact leaf k (Same.trans (Same.trans (Same.trans s_2 s_7) s_9) s_12) (congrArg V.bl (by unfold m_may_put; rw [if_pos c_3, if_pos c_4, if_pos c_5, if_pos c_10, if_pos c_13]; try rfl))
            · replace c_13 : ¬ (¬ (m_kind_of f) = (3)) := of_decide_eq_false c_13
              refine ⟨_, rfl, _, rfl, trivial, fun H_14 s_15 => ?_⟩
              exact leaf k (Same.trans (Same.trans (Same.trans (Same.trans s_2 s_7) s_9) s_12) s_15) (congrArg V.bl (by unfold m_may_put; rw [if_pos c_3, if_pos c_4, if_pos c_5, if_pos c_10, if_neg c_13]; try rfl))
        · replace c_5 : ¬ (how ≤ (15)) := of_decide_eq_false c_5
          refine iteT ?_
          exact leaf k s_2 (congrArg V.bl (by unfold m_may_put; rw [if_pos c_3, if_pos c_4, if_neg c_5]; try rfl))
      · replace c_4 : ¬ ((0) ≤ how) := of_decide_eq_false c_4
        refine ⟨_, rfl, ?_⟩
        refine iteF ?_
        refine iteT ?_
        exact leaf k s_2 (congrArg V.bl (by unfold m_may_put; rw [if_pos c_3, if_neg c_4]; try rfl))
    · replace c_3 : ¬ ((m_is_format f) = true) := ne_true_of_eq_false c_3
      refine iteT ?_
      exact leaf k s_2 (congrArg V.bl (by unfold m_may_put; rw [if_neg c_3]; try rfl))
noncomputable def sp_end_raw : Sp := fun vs H Q _ => ∃ (f : Int) (below : Bool), vs = [.int f, .bl below] ∧ (m_is_format f = true) ∧ ∀ H' : Hp, Same H H' → Q (.int (m_end_raw f below)) H'
theorem bd_end_raw (T : Txt K mg) : Binds K T.fd_end_raw ["f", "below"] [] := T.F_end_raw.binds (ps := ["f", "below"]) fun _ _ _ _ _ _ => on2 fun _ _ => rfl
theorem ok_end_raw (T : Txt K mg) : FnOk P w K mg base CX0 6 T.f_end_raw T.fd_end_raw ["f", "below"] sp_end_raw := by
  refine T.F_end_raw.ok sc_end_raw (fun vs H Q E h => ?_) (fun cdv A outer s H vs Q E hr h => ?_)
  · obtain ⟨f, below, rfl, _⟩ := h
    rfl
  · obtain ⟨f, below, rfl, hpre, k⟩ := h
    refine ⟨_, (pss_one (ps_ret (pe_ifExp (pt_val (pv 1)) (pe_call (ok_least_raw T) (hr.mono (by decide)) rfl T.m_least_raw T.F_least_raw.kp (bd_least_raw T) .nil pass0 (pa_cons (pv 0) pa_nil)) (pe_call (ok_greatest_raw T) (hr.mono (by decide)) rfl T.m_greatest_raw T.F_greatest_raw.kp (bd_greatest_raw T) .nil pass0 (pa_cons (pv 0) pa_nil))))), ?_⟩
    refine ⟨_, rfl, _, rfl, ?_⟩
    refine iteB (fun c_1 => ?_) (fun c_1 => ?_)
    · replace c_1 : (below = true) := c_1
      refine ⟨_, rfl, _, rfl, hpre, fun H_2 s_3 => ?_⟩
      exact leaf k s_3 (congrArg V.int (by unfold m_end_raw; rw [if_pos c_1]; try rfl))
    · replace c_1 : ¬ (below = true) := ne_true_of_eq_false c_1
      refine ⟨_, rfl, _, rfl, hpre, fun H_4 s_5 => ?_⟩
      exact leaf k s_5 (congrArg V.int (by unfold m_end_raw; rw [if_neg c_1]; try rfl))
noncomputable def sp_put_fixed (C : Addr) : Sp := fun vs H Q _ => ∃ (x_p : Addr) (x_t x_b : Int) (f : Int) (how : Int), vs = [.ref x_p, .int f, .int how] ∧ RatAt C H x_p x_t x_b ∧ (RB x_t x_b ∧ m_is_format f = true) ∧ ∀ (H' : Hp) (p : Addr), Same H H' → H' p = some (.lst [.int (m_put_fixed x_t x_b f how).1, .int (m_put_fixed x_t x_b f how).2]) → Q (.ref p) H'
theorem bd_put_fixed (T : Txt K mg) : Binds K T.fd_put_fixed ["x", "f", "how"] [] := T.F_put_fixed.binds (ps := ["x", "f", "how"]) fun _ _ _ _ _ _ => on3 fun _ _ _ => rfl
theorem ok_put_fixed (T : Txt K mg) : FnOk P w K mg base CX0 7 T.f_put_fixed T.fd_put_fixed ["x", "f", "how"] (sp_put_fixed T.a_Ratio) := by
  refine T.F_put_fixed.ok sc_put_fixed (fun vs H Q E h => ?_) (fun cdv A outer s H vs Q E hr h => ?_)
  · obtain ⟨x_p, x_t, x_b, f, how, rfl, _⟩ := h
    rfl
  · obtain ⟨x_p, x_t, x_b, f, how, rfl, h_x, hpre, k⟩ := h
    refine ⟨_, (pss_cons (ps_set (i := 3) sc_put_fixed.nd rfl (Or.inl rfl) (pe_cmpR op_lt (pe_fld (pv 0) rfl) pe_int (nomark _)))
      (pss_cons (ps_set (i := 4) sc_put_fixed.nd rfl (Or.inl rfl) (pe_call (ok_quarters T) (hr.mono (by decide)) rfl T.m_quarters T.F_quarters.kp (bd_quarters T) .nil pass0 (pa_cons (pv 0) (pa_cons (pe_un un_neg (pe_call (ok_point_of T) (hr.mono (by decide)) rfl T.m_point_of T.F_point_of.kp (bd_point_of T) .nil pass0 (pa_cons (pv 1) pa_nil))) pa_nil))))
      (pss_cons (ps_set (i := 5) sc_put_fixed.nd rfl (Or.inl rfl) (pe_call (ok_rounded T) (hr.mono (by decide)) rfl T.m_rounded T.F_rounded.kp (bd_rounded T) .nil pass0 (pa_cons (pv 4) (pa_cons (pe_call (ok_mode_of T) (hr.mono (by decide)) rfl T.m_mode_of T.F_mode_of.kp (bd_mode_of T) .nil pass0 (pa_cons (pv 2) pa_nil)) (pa_cons (pv 3) pa_nil)))))
      (pss_cons (ps_if (pt_val (pv 3)) (pss_one (ps_set (i := 5) sc_put_fixed.nd rfl (Or.inl rfl) (pe_un un_neg (pv 5)))) pss_nil)
      (pss_cons (ps_set (i := 6) sc_put_fixed.nd rfl (Or.inl rfl) (pe_ifExp (pt_val (pe_call (ok_is_whole T) (hr.mono (by decide)) rfl T.m_is_whole T.F_is_whole.kp (bd_is_whole T) .nil pass0 (pa_cons (pv 4) pa_nil))) pe_int (pe_globE rfl T.c_INEXACT)))
      (pss_cons (ps_set (i := 7) sc_put_fixed.nd rfl (Or.inl rfl) (pe_op op_mod (pv 5) (pe_op op_shlB pe_int (pe_call (ok_width_of T) (hr.mono (by decide)) rfl T.m_width_of T.F_width_of.kp (bd_width_of T) .nil pass0 (pa_cons (pv 1) pa_nil)))))
      (pss_cons (ps_if (pt_chain op_le op_le (pe_call (ok_steps_of T) (hr.mono (by decide)) rfl T.m_steps_of T.F_steps_of.kp (bd_steps_of T) .nil pass0 (pa_cons (pv 1) (pa_cons (pe_call (ok_least_raw T) (hr.mono (by decide)) rfl T.m_least_raw T.F_least_raw.kp (bd_least_raw T) .nil pass0 (pa_cons (pv 1) pa_nil)) pa_nil))) (pv 5) (pe_call (ok_steps_of T) (hr.mono (by decide)) rfl T.m_steps_of T.F_steps_of.kp (bd_steps_of T) .nil pass0 (pa_cons (pv 1) (pa_cons (pe_call (ok_greatest_raw T) (hr.mono (by decide)) rfl T.m_greatest_raw T.F_greatest_raw.kp (bd_greatest_raw T) .nil pass0 (pa_cons (pv 1) pa_nil)) pa_nil)))) (pss_one (ps_ret (pe_lst (pa_cons (pv 6) (pa_cons (pv 7) pa_nil))))) pss_nil)
      (pss_cons (ps_if (pt_val (pe_call (ok_holds T) (hr.mono (by decide)) rfl T.m_holds T.F_holds.kp (bd_holds T) .nil pass0 (pa_cons (pv 2) pa_nil))) (pss_one (ps_ret (pe_lst (pa_cons (pe_op op_add (pe_globE rfl T.c_INEXACT) (pe_globE rfl T.c_HELD)) (pa_cons (pe_call (ok_end_raw T) (hr.mono (by decide)) rfl T.m_end_raw T.F_end_raw.kp (bd_end_raw T) .nil pass0 (pa_cons (pv 1) (pa_cons (pv 3) pa_nil))) pa_nil))))) pss_nil)
      (pss_one (ps_ret (pe_lst (pa_cons (pe_op op_add (pv 6) (pe_globE rfl T.c_HELD)) (pa_cons (pv 7) pa_nil))))))))))))), ?_⟩
    refine ⟨_, rfl, fld_top h_x T.cl_Ratio T.na_Ratio_top ?_⟩
    refine ⟨_, _, rfl, rfl, _, rfl, _, rfl, _, rfl, trivial, fun H_1 s_2 => ?_⟩
    refine ⟨_, rfl, _, _, _, _, rfl, (RatAt.keep s_2 h_x), ⟨hpre.1, by have := point_lt f; omega, by have := point_nn f; omega, fix_place f hpre.1.2.1⟩, fun H_3 s_4 => ?_⟩
    refine ⟨_, rfl, _, rfl, _, rfl, trivial, fun H_5 s_6 => ?_⟩
    refine ⟨_, rfl, _, _, _, rfl, trivial, fun H_7 s_8 => ?_⟩
    refine ⟨_, rfl, _, rfl, ?_⟩
    refine iteB (fun c_9 => ?_) (fun c_9 => ?_)
    · replace c_9 : (x_t < (0)) := of_decide_eq_true c_9
      refine ⟨_, rfl, _, rfl, _, rfl, _, rfl, trivial, fun H_10 s_11 => ?_⟩
      refine ⟨_, rfl, ?_⟩
      refine iteB (fun c_12 => ?_) (fun c_12 => ?_)
      · replace c_12 : ((m_is_whole (m_quarters x_t x_b (-(m_point_of f)))) = true) := c_12
        refine ⟨_, rfl, _, rfl, _, rfl, trivial, fun H_13 s_14 => ?_⟩
        refine ⟨_, _, rfl, rfl, cshl (width_nn f) (m := 1) (by decide) (by have := width_lt f; omega), _, _, rfl, rfl, (one_pos _), _, rfl, _, rfl, _, rfl, hpre.2, fun H_15 s_16 => ?_⟩
        refine ⟨_, _, rfl, hpre.2, fun H_17 s_18 => ?_⟩
        refine ⟨_, rfl, _, _, rfl, rfl, _, rfl, ?_⟩
        refine iteB (fun c_19 => ?_) (fun c_19 => ?_)
        · replace c_19 : ((m_steps_of f (m_least_raw f)) ≤ (-(m_rounded (m_quarters x_t x_b (-(m_point_of f))) (m_mode_of how) (decide (x_t < (0)))))) := of_decide_eq_true c_19
          refine ⟨_, rfl, _, rfl, _, rfl, hpre.2, fun H_20 s_21 => ?_⟩
          refine ⟨_, _, rfl, hpre.2, fun H_22 s_23 => ?_⟩
          refine ⟨_, _, rfl, rfl, _, rfl, ?_⟩
          refine iteB (fun c_24 => ?_) (fun c_24 => ?_)
          · replace c_24 : ((-(m_rounded (m_quarters x_t x_b (-(m_point_of f))) (m_mode_of how) (decide (x_t < (0))))) ≤ (m_steps_of f (m_greatest_raw f))) := of_decide_eq_true c_24
            refine ⟨_, rfl, _, rfl, (by show 2 ≤ sizeLine; decide), fun p_25 h_26 => ?_⟩
            exact leafP (u := ((0), ((-(m_rounded (m_quarters x_t x_b (-(m_point_of f))) (m_mode_of how) (decide (x_t < (0))))) % ((1) * 2 ^ ((m_width_of f) : Int).toNat)))) k (Same.trans (Same.trans (Same.trans (Same.trans (Same.trans (Same.trans (Same.trans (Same.trans (Same.trans (Same.trans s_2 s_4) s_6) s_8) s_11) s_14) s_16) s_18) s_21) s_23) (Same.new h_26)) upd_same (by unfold m_put_fixed; rw [if_pos c_9, if_pos c_12, if_pos c_19, if_pos c_24]; try rfl)
          · replace c_24 : ¬ ((-(m_rounded (m_quarters x_t x_b (-(m_point_of f))) (m_mode_of how) (decide (x_t < (0))))) ≤ (m_steps_of f (m_greatest_raw f))) := of_decide_eq_false c_24
            refine ⟨_, rfl, _, rfl, trivial, fun H_27 s_28 => ?_⟩
            refine ⟨_, rfl, ?_⟩
            refine iteB (fun c_29 => ?_) (fun c_29 => ?_)
            · replace c_29 : ((m_holds how) = true) := c_29
              refine ⟨_, _, rfl, rfl, _, rfl, _, rfl, _, _, rfl, hpre.2, fun H_30 s_31 => ?_⟩
              refine ⟨(by show 2 ≤ sizeLine; decide), fun p_32 h_33 => ?_⟩
              exact leafP (u := (((1) + (4)), (m_end_raw f (decide (x_t < (0)))))) k (Same.trans (Same.trans (Same.trans (Same.trans (Same.trans (Same.trans (Same.trans (Same.trans (Same.trans (Same.trans (Same.trans (Same.trans s_2 s_4) s_6) s_8) s_11) s_14) s_16) s_18) s_21) s_23) s_28) s_31) (Same.new h_33)) upd_same (by unfold m_put_fixed; rw [if_pos c_9, if_pos c_12, if_pos c_19, if_neg c_24, if_pos c_29]; try rfl)
            · replace c_29 : ¬ ((m_holds how) = true) := ne_true_of_eq_false c_29
              refine ⟨_, rfl, _, _, rfl, rfl, _, rfl, (by show 2 ≤ sizeLine; decide), fun p_34 h_35 => ?_⟩
              exact leafP (u := (((0) + (4)), ((-(m_rounded (m_quarters x_t x_b (-(m_point_of f))) (m_mode_of how) (decide (x_t < (0))))) % ((1) * 2 ^ ((m_width_of f) : Int).toNat)))) k (Same.trans (Same.trans (Same.trans (Same.trans (Same.trans (Same.trans (Same.trans (Same.trans (Same.trans (Same.trans (Same.trans s_2 s_4) s_6) s_8) s_11) s_14) s_16) s_18) s_21) s_23) s_28) (Same.new h_35)) upd_same (by unfold m_put_fixed; rw [if_pos c_9, if_pos c_12, if_pos c_19, if_neg c_24, if_neg c_29]; try rfl)
        · replace c_19 : ¬ ((m_steps_of f (m_least_raw f)) ≤ (-(m_rounded (m_quarters x_t x_b (-(m_point_of f))) (m_mode_of how) (decide (x_t < (0)))))) := of_decide_eq_false c_19
          refine ⟨_, rfl, ?_⟩
          refine iteF ?_
          refine ⟨_, rfl, _, rfl, trivial, fun H_36 s_37 => ?_⟩
          refine ⟨_, rfl, ?_⟩
          refine iteB (fun c_38 => ?_) (fun c_38 => ?_)
          · replace c_38 : ((m_holds how) = true) := c_38
            refine ⟨_, _, rfl, rfl, _, rfl, _, rfl, _, _, rfl, hpre.2, fun H_39 s_40 => ?_⟩
            refine ⟨(by show 2 ≤ sizeLine; decide), fun p_41 h_42 => ?_⟩
            exact leafP (u := (((1) + (4)), (m_end_raw f (decide (x_t < (0)))))) k (Same.trans (Same.trans (Same.trans (Same.trans (Same.trans (Same.trans (Same.trans (Same.trans (Same.trans (Same.trans s_2 s_4) s_6) s_8) s_11) s_14) s_16) s_18) s_37) s_40) (Same.new h_42)) upd_same (by unfold m_put_fixed; rw [if_pos c_9, if_pos c_12, if_neg c_19, if_pos c_38]; try rfl)
          · replace c_38 : ¬ ((m_holds how) = true) := ne_true_of_eq_false c_38
            refine ⟨_, rfl, _, _, rfl, rfl, _, rfl, (by show 2 ≤ sizeLine; decide), fun p_43 h_44 => ?_⟩
            exact leafP (u := (((0) + (4)), ((-(m_rounded (m_quarters x_t x_b (-(m_point_of f))) (m_mode_of how) (decide (x_t < (0))))) % ((1) * 2 ^ ((m_width_of f) : Int).toNat)))) k (Same.trans (Same.trans (Same.trans (Same.trans (Same.trans (Same.trans (Same.trans (Same.trans (Same.trans s_2 s_4) s_6) s_8) s_11) s_14) s_16) s_18) s_37) (Same.new h_44)) upd_same (by unfold m_put_fixed; rw [if_pos c_9, if_pos c_12, if_neg c_19, if_neg c_38]; try rfl)
      · replace c_12 : ¬ ((m_is_whole (m_quarters x_t x_b (-(m_point_of f)))) = true) := ne_true_of_eq_false c_12
        refine ⟨_, rfl, _, rfl, _, rfl, trivial, fun H_45 s_46 => ?_⟩
        refine ⟨_, _, rfl, rfl, cshl (width_nn f) (m := 1) (by decide) (by have := width_lt f; omega), _, _, rfl, rfl, (one_pos _), _, rfl, _, rfl, _, rfl, hpre.2, fun H_47 s_48 => ?_⟩
        refine ⟨_, _, rfl, hpre.2, fun H_49 s_50 => ?_⟩
        refine ⟨_, rfl, _, _, rfl, rfl, _, rfl, ?_⟩
        refine iteB (fun c_51 => ?_) (fun c_51 => ?_)
        · replace c_51 : ((m_steps_of f (m_least_raw f)) ≤ (-(m_rounded (m_quarters x_t x_b (-(m_point_of f))) (m_mode_of how) (decide (x_t < (0)))))) := of_decide_eq_true c_51
          refine ⟨_, rfl, _, rfl, _, rfl, hpre.2, fun H_52 s_53 => ?_⟩
          refine ⟨_, _, rfl, hpre.2, fun H_54 s_55 => ?_⟩
          refine ⟨_, _, rfl, rfl, _, rfl, ?_⟩
          refine iteB (fun c_56 => ?_) (fun c_56 => ?_)
          · replace c_56 : ((-(m_rounded (m_quarters x_t x_b (-(m_point_of f))) (m_mode_of how) (decide (x_t < (0))))) ≤ (m_steps_of f (m_greatest_raw f))) := of_decide_eq_true c_56
            refine ⟨_, rfl, _, rfl, (by show 2 ≤ sizeLine; decide), fun p_57 h_58 => ?_⟩
            exact leafP (u := ((1), ((-(m_rounded (m_quarters x_t x_b (-(m_point_of f))) (m_mode_of how) (decide (x_t < (0))))) % ((1) * 2 ^ ((m_width_of f) : Int).toNat)))) k (Same.trans (Same.trans (Same.trans (Same.trans (Same.trans (Same.trans (Same.trans (Same.trans (Same.trans (Same.trans s_2 s_4) s_6) s_8) s_11) s_46) s_48) s_50) s_53) s_55) (Same.new h_58)) upd_same (by unfold m_put_fixed; rw [if_pos c_9, if_neg c_12, if_pos c_51, if_pos c_56]; try rfl)
          · replace c_56 : ¬ ((-(m_rounded (m_quarters x_t x_b (-(m_point_of f))) (m_mode_of how) (decide (x_t < (0))))) ≤ (m_steps_of f (m_greatest_raw f))) := of_decide_eq_false c_56
            refine ⟨_, rfl, _, rfl, trivial, fun H_59 s_60 => ?_⟩
            refine ⟨_, rfl, ?_⟩
            refine iteB (fun c_61 => ?_) (fun c_61 => ?_)
            · replace c_61 : ((m_holds how) = true) := c_61
              refine ⟨_, _, rfl, rfl, _, rfl, _, rfl, _, _, rfl, hpre.2, fun H_62 s_63 => ?_⟩
              refine ⟨(by show 2 ≤ sizeLine; decide), fun p_64 h_65 => ?_⟩
              exact leafP (u := (((1) + (4)), (m_end_raw f (decide (x_t < (0)))))) k (Same.trans (Same.trans (Same.trans (Same.trans (Same.trans (Same.trans (Same.trans (Same.trans (Same.trans (Same.trans (Same.trans (Same.trans s_2 s_4) s_6) s_8) s_11) s_46) s_48) s_50) s_53) s_55) s_60) s_63) (Same.new h_65)) upd_same (by unfold m_put_fixed; rw [if_pos c_9, if_neg c_12, if_pos c_51, if_neg c_56, if_pos c_61]; try rfl)
            · replace c_61 : ¬ ((m_holds how) = true) := ne_true_of_eq_false c_61
              refine ⟨_, rfl, _, _, rfl, rfl, _, rfl, (by show 2 ≤ sizeLine; decide), fun p_66 h_67 => ?_⟩
              exact leafP (u := (((1) + (4)), ((-(m_rounded (m_quarters x_t x_b (-(m_point_of f))) (m_mode_of how) (decide (x_t < (0))))) % ((1) * 2 ^ ((m_width_of f) : Int).toNat)))) k (Same.trans (Same.trans (Same.trans (Same.trans (Same.trans (Same.trans (Same.trans (Same.trans (Same.trans (Same.trans (Same.trans s_2 s_4) s_6) s_8) s_11) s_46) s_48) s_50) s_53) s_55) s_60) (Same.new h_67)) upd_same (by unfold m_put_fixed; rw [if_pos c_9, if_neg c_12, if_pos c_51, if_neg c_56, if_neg c_61]; try rfl)
        · replace c_51 : ¬ ((m_steps_of f (m_least_raw f)) ≤ (-(m_rounded (m_quarters x_t x_b (-(m_point_of f))) (m_mode_of how) (decide (x_t < (0)))))) := of_decide_eq_false c_51
          refine ⟨_, rfl, ?_⟩
          refine iteF ?_
          refine ⟨_, rfl, _, rfl, trivial, fun H_68 s_69 => ?_⟩
          refine ⟨_, rfl, ?_⟩
          refine iteB (fun c_70 => ?_) (fun c_70 => ?_)
          · replace c_70 : ((m_holds how) = true) := c_70
            refine ⟨_, _, rfl, rfl, _, rfl, _, rfl, _, _, rfl, hpre.2, fun H_71 s_72 => ?_⟩
            refine ⟨(by show 2 ≤ sizeLine; decide), fun p_73 h_74 => ?_⟩
            exact leafP (u := (((1) + (4)), (m_end_raw f (decide (x_t < (0)))))) k (Same.trans (Same.trans (Same.trans (Same.trans (Same.trans (Same.trans (Same.trans (Same.trans (Same.trans (Same.trans s_2 s_4) s_6) s_8) s_11) s_46) s_48) s_50) s_69) s_72) (Same.new h_74)) upd_same (by unfold m_put_fixed; rw [if_pos c_9, if_neg c_12, if_neg c_51, if_pos c_70]; try rfl)
          · replace c_70 : ¬ ((m_holds how) = true) := ne_true_of_eq_false c_70
            refine ⟨_, rfl, _, _, rfl, rfl, _, rfl, (by show 2 ≤ sizeLine; decide), fun p_75 h_76 => ?_⟩
            exact leafP (u := (((1) + (4)), ((-(m_rounded (m_quarters x_t x_b (-(m_point_of f))) (m_mode_of how) (decide (x_t < (0))))) % ((1) * 2 ^ ((m_width_of f) : Int).toNat)))) k (Same.trans (Same.trans (Same.trans (Same.trans (Same.trans (Same.trans (Same.trans (Same.trans (Same.trans s_2 s_4) s_6) s_8) s_11) s_46) s_48) s_50) s_69) (Same.new h_76)) upd_same (by unfold m_put_fixed; rw [if_pos c_9, if_neg c_12, if_neg c_51, if_neg c_70]; try rfl)
    · replace c_9 : ¬ (x_t < (0)) := of_decide_eq_false c_9
      refine ⟨_, rfl, _, rfl, trivial, fun H_77 s_78 => ?_⟩
      refine ⟨_, rfl, ?_⟩
      refine iteB (fun c_79 => ?_) (fun c_79 => ?_)
      · replace c_79 : ((m_is_whole (m_quarters x_t x_b (-(m_point_of f)))) = true) := c_79
        refine ⟨_, rfl, _, rfl, _, rfl, trivial, fun H_80 s_81 => ?_⟩
        refine ⟨_, _, rfl, rfl, cshl (width_nn f) (m := 1) (by decide) (by have := width_lt f; omega), _, _, rfl, rfl, (one_pos _), _, rfl, _, rfl, _, rfl, hpre.2, fun H_82 s_83 => ?_⟩
        refine ⟨_, _, rfl, hpre.2, fun H_84 s_85 => ?_⟩
        refine ⟨_, rfl, _, _, rfl, rfl, _, rfl, ?_⟩
        refine iteB (fun c_86 => ?_) (fun c_86 => ?_)
        · replace c_86 : ((m_steps_of f (m_least_raw f)) ≤ (m_rounded (m_quarters x_t x_b (-(m_point_of f))) (m_mode_of how) (decide (x_t < (0))))) := of_decide_eq_true c_86
          refine ⟨_, rfl, _, rfl, _, rfl, hpre.2, fun H_87 s_88 => ?_⟩
          refine ⟨_, _, rfl, hpre.2, fun H_89 s_90 => ?_⟩
          refine ⟨_, _, rfl, rfl, _, rfl, ?_⟩
          refine iteB (fun c_91 => ?_) (fun c_91 => ?_)
          · replace c_91 : ((m_rounded (m_quarters x_t x_b (-(m_point_of f))) (m_mode_of how) (decide (x_t < (0)))) ≤ (m_steps_of f (m_greatest_raw f))) := of_decide_eq_true c_91
            refine ⟨_, rfl, _, rfl, (by show 2 ≤ sizeLine; decide), fun p_92 h_93 => ?_⟩
            exact leafP (u := ((0), ((m_rounded (m_quarters x_t x_b (-(m_point_of f))) (m_mode_of how) (decide (x_t < (0)))) % ((1) * 2 ^ ((m_width_of f) : Int).toNat)))) k (Same.trans (Same.trans (Same.trans (Same.trans (Same.trans (Same.trans (Same.trans (Same.trans (Same.trans (Same.trans s_2 s_4) s_6) s_8) s_78) s_81) s_83) s_85) s_88) s_90) (Same.new h_93)) upd_same (by unfold m_put_fixed; rw [if_neg c_9, if_pos c_79, if_pos c_86, if_pos c_91]; try rfl)
          · replace c_91 : ¬ ((m_rounded (m_quarters x_t x_b (-(m_point_of f))) (m_mode_of how) (decide (x_t < (0)))) ≤ (m_steps_of f (m_greatest_raw f))) := of_decide_eq_false c_91
            refine ⟨_, rfl, _, rfl, trivial, fun H_94 s_95 => ?_⟩
            refine ⟨_, rfl, ?_⟩
            refine iteB (fun c_96 => ?_) (fun c_96 => ?_)
            · replace c_96 : ((m_holds how) = true) := c_96
              refine ⟨_, _, rfl, rfl, _, rfl, _, rfl, _, _, rfl, hpre.2, fun H_97 s_98 => ?_⟩
              refine ⟨(by show 2 ≤ sizeLine; decide), fun p_99 h_100 => ?_⟩
              exact leafP (u := (((1) + (4)), (m_end_raw f (decide (x_t < (0)))))) k (Same.trans (Same.trans (Same.trans (Same.trans (Same.trans (Same.trans (Same.trans (Same.trans (Same.trans (Same.trans (Same.trans (Same.trans s_2 s_4) s_6) s_8) s_78) s_81) s_83) s_85) s_88) s_90) s_95) s_98) (Same.new h_100)) upd_same (by unfold m_put_fixed; rw [if_neg c_9, if_pos c_79, if_pos c_86, if_neg c_91, if_pos c_96]; try rfl)
            · replace c_96 : ¬ ((m_holds how) = true) := ne_true_of_eq_false c_96
              refine ⟨_, rfl, _, _, rfl, rfl, _, rfl, (by show 2 ≤ sizeLine; decide), fun p_101 h_102 => ?_⟩
              exact leafP (u := (((0) + (4)), ((m_rounded (m_quarters x_t x_b (-(m_point_of f))) (m_mode_of how) (decide (x_t < (0)))) % ((1) * 2 ^ ((m_width_of f) : Int).toNat)))) k (Same.trans (Same.trans (Same.trans (Same.trans (Same.trans (Same.trans (Same.trans (Same.trans (Same.trans (Same.trans (Same.trans s_2 s_4) s_6) s_8) s_78) s_81) s_83) s_85) s_88) s_90) s_95) (Same.new h_102)) upd_same (by unfold m_put_fixed; rw [if_neg c_9, if_pos c_79, if_pos c_86, if_neg c_91, if_neg c_96]; try rfl)
        · replace c_86 : ¬ ((m_steps_of f (m_least_raw f)) ≤ (m_rounded (m_quarters x_t x_b (-(m_point_of f))) (m_mode_of how) (decide (x_t < (0))))) := of_decide_eq_false c_86
          refine ⟨_, rfl, ?_⟩
          refine iteF ?_
          refine ⟨_, rfl, _, rfl, trivial, fun H_103 s_104 => ?_⟩
          refine ⟨_, rfl, ?_⟩
          refine iteB (fun c_105 => ?_) (fun c_105 => ?_)
          · replace c_105 : ((m_holds how) = true) := c_105
            refine ⟨_, _, rfl, rfl, _, rfl, _, rfl, _, _, rfl, hpre.2, fun H_106 s_107 => ?_⟩
            refine ⟨(by show 2 ≤ sizeLine; decide), fun p_108 h_109 => ?_⟩
            exact leafP (u := (((1) + (4)), (m_end_raw f (decide (x_t < (0)))))) k (Same.trans (Same.trans (Same.trans (Same.trans (Same.trans (Same.trans (Same.trans (Same.trans (Same.trans (Same.trans s_2 s_4) s_6) s_8) s_78) s_81) s_83) s_85) s_104) s_107) (Same.new h_109)) upd_same (by unfold m_put_fixed; rw [if_neg c_9, if_pos c_79, if_neg c_86, if_pos c_105]; try rfl)
          · replace c_105 : ¬ ((m_holds how) = true) := ne_true_of_eq_false c_105
            refine ⟨_, rfl, _, _, rfl, rfl, _, rfl, (by show 2 ≤ sizeLine; decide), fun p_110 h_111 => ?_⟩
            exact leafP (u := (((0) + (4)), ((m_rounded (m_quarters x_t x_b (-(m_point_of f))) (m_mode_of how) (decide (x_t < (0)))) % ((1) * 2 ^ ((m_width_of f) : Int).toNat)))) k (Same.trans (Same.trans (Same.trans (Same.trans (Same.trans (Same.trans (Same.trans (Same.trans (Same.trans s_2 s_4) s_6) s_8) s_78) s_81) s_83) s_85) s_104) (Same.new h_111)) upd_same (by unfold m_put_fixed; rw [if_neg c_9, if_pos c_79, if_neg c_86, if_neg c_105]; try rfl)
      · replace c_79 : ¬ ((m_is_whole (m_quarters x_t x_b (-(m_point_of f)))) = true) := ne_true_of_eq_false c_79
        refine ⟨_, rfl, _, rfl, _, rfl, trivial, fun H_112 s_113 => ?_⟩
        refine ⟨_, _, rfl, rfl, cshl (width_nn f) (m := 1) (by decide) (by have := width_lt f; omega), _, _, rfl, rfl, (one_pos _), _, rfl, _, rfl, _, rfl, hpre.2, fun H_114 s_115 => ?_⟩
        refine ⟨_, _, rfl, hpre.2, fun H_116 s_117 => ?_⟩
        refine ⟨_, rfl, _, _, rfl, rfl, _, rfl, ?_⟩
        refine iteB (fun c_118 => ?_) (fun c_118 => ?_)
        · replace c_118 : ((m_steps_of f (m_least_raw f)) ≤ (m_rounded (m_quarters x_t x_b (-(m_point_of f))) (m_mode_of how) (decide (x_t < (0))))) := of_decide_eq_true c_118
          refine ⟨_, rfl, _, rfl, _, rfl, hpre.2, fun H_119 s_120 => ?_⟩
          refine ⟨_, _, rfl, hpre.2, fun H_121 s_122 => ?_⟩
          refine ⟨_, _, rfl, rfl, _, rfl, ?_⟩
          refine iteB (fun c_123 => ?_) (fun c_123 => ?_)
          · replace c_123 : ((m_rounded (m_quarters x_t x_b (-(m_point_of f))) (m_mode_of how) (decide (x_t < (0)))) ≤ (m_steps_of f (m_greatest_raw f))) := of_decide_eq_true c_123
            refine ⟨_, rfl, _, rfl, (by show 2 ≤ sizeLine; decide), fun p_124 h_125 => ?_⟩
            exact leafP (u := ((1), ((m_rounded (m_quarters x_t x_b (-(m_point_of f))) (m_mode_of how) (decide (x_t < (0)))) % ((1) * 2 ^ ((m_width_of f) : Int).toNat)))) k (Same.trans (Same.trans (Same.trans (Same.trans (Same.trans (Same.trans (Same.trans (Same.trans (Same.trans (Same.trans s_2 s_4) s_6) s_8) s_78) s_113) s_115) s_117) s_120) s_122) (Same.new h_125)) upd_same (by unfold m_put_fixed; rw [if_neg c_9, if_neg c_79, if_pos c_118, if_pos c_123]; try rfl)
          · replace c_123 : ¬ ((m_rounded (m_quarters x_t x_b (-(m_point_of f))) (m_mode_of how) (decide (x_t < (0)))) ≤ (m_steps_of f (m_greatest_raw f))) := of_decide_eq_false c_123
            refine ⟨_, rfl, _, rfl, trivial, fun H_126 s_127 => ?_⟩
            refine ⟨_, rfl, ?_⟩
            refine iteB (fun c_128 => ?_) (fun c_128 => ?_)
            · replace c_128 : ((m_holds how) = true) := c_128
              refine ⟨_, _, rfl, rfl, _, rfl, _, rfl, _, _, rfl, hpre.2, fun H_129 s_130 => ?_⟩
              refine ⟨(by show 2 ≤ sizeLine; decide), fun p_131 h_132 => ?_⟩
              exact leafP (u := (((1) + (4)), (m_end_raw f (decide (x_t < (0)))))) k (Same.trans (Same.trans (Same.trans (Same.trans (Same.trans (Same.trans (Same.trans (Same.trans (Same.trans (Same.trans (Same.trans (Same.trans s_2 s_4) s_6) s_8) s_78) s_113) s_115) s_117) s_120) s_122) s_127) s_130) (Same.new h_132)) upd_same (by unfold m_put_fixed; rw [if_neg c_9, if_neg c_79, if_pos c_118, if_neg c_123, if_pos c_128]; try rfl)
            · replace c_128 : ¬ ((m_holds how) = true) := ne_true_of_eq_false c_128
              refine ⟨_, rfl, _, _, rfl, rfl, _, rfl, (by show 2 ≤ sizeLine; decide), fun p_133 h_134 => ?_⟩
              exact leafP (u := (((1) + (4)), ((m_rounded (m_quarters x_t x_b (-(m_point_of f))) (m_mode_of how) (decide (x_t < (0)))) % ((1) * 2 ^ ((m_width_of f) : Int).toNat)))) k (Same.trans (Same.trans (Same.trans (Same.trans (Same.trans (Same.trans (Same.trans (Same.trans (Same.trans (Same.trans (Same.trans s_2 s_4) s_6) s_8) s_78) s_113) s_115) s_117) s_120) s_122) s_127) (Same.new h_134)) upd_same (by unfold m_put_fixed; rw [if_neg c_9, if_neg c_79, if_pos c_118, if_neg c_123, if_neg c_128]; try rfl)
        · replace c_118 : ¬ ((m_steps_of f (m_least_raw f)) ≤ (m_rounded (m_quarters x_t x_b (-(m_point_of f))) (m_mode_of how) (decide (x_t < (0))))) := of_decide_eq_false c_118
          refine ⟨_, rfl, ?_⟩
          refine iteF ?_
          refine ⟨_, rfl, _, rfl, trivial, fun H_135 s_136 => ?_⟩
          refine ⟨_, rfl, ?_⟩
          refine iteB (fun c_137 => ?_) (fun c_137 => ?_)
          · replace c_137 : ((m_holds how) = true) := c_137
            refine ⟨_, _, rfl, rfl, _, rfl, _, rfl, _, _, rfl, hpre.2, fun H_138 s_139 => ?_⟩
            refine ⟨(by show 2 ≤ sizeLine; decide), fun p_140 h_141 => ?_⟩
            exact leafP (u := (((1) + (4)), (m_end_raw f (decide (x_t < (0)))))) k (Same.trans (Same.trans (Same.trans (Same.trans (Same.trans (Same.trans (Same.trans (Same.trans (Same.trans (Same.trans s_2 s_4) s_6) s_8) s_78) s_113) s_115) s_117) s_136) s_139) (Same.new h_141)) upd_same (by unfold m_put_fixed; rw [if_neg c_9, if_neg c_79, if_neg c_118, if_pos c_137]; try rfl)
          · replace c_137 : ¬ ((m_holds how) = true) := ne_true_of_eq_false c_137
            refine ⟨_, rfl, _, _, rfl, rfl, _, rfl, (by show 2 ≤ sizeLine; decide), fun p_142 h_143 => ?_⟩
            exact leafP (u := (((1) + (4)), ((m_rounded (m_quarters x_t x_b (-(m_point_of f))) (m_mode_of how) (decide (x_t < (0)))) % ((1) * 2 ^ ((m_width_of f) : Int).toNat)))) k (Same.trans (Same.trans (Same.trans (Same.trans (Same.trans (Same.trans (Same.trans (Same.trans (Same.trans s_2 s_4) s_6) s_8) s_78) s_113) s_115) s_117) s_136) (Same.new h_143)) upd_same (by unfold m_put_fixed; rw [if_neg c_9, if_neg c_79, if_neg c_118, if_neg c_137]; try rfl)
noncomputable def sp_put_float (C : Addr) : Sp := fun vs H Q _ => ∃ (x_p : Addr) (x_t x_b : Int) (f : Int) (mode : Int), vs = [.ref x_p, .int f, .int mode] ∧ RatAt C H x_p x_t x_b ∧ (RB x_t x_b ∧ m_is_format f = true ∧ m_kind_of f = 3) ∧ ∀ (H' : Hp) (p : Addr), Same H H' → H' p = some (.lst [.int (m_put_float x_t x_b f mode).1, .int (m_put_float x_t x_b f mode).2]) → Q (.ref p) H'
theorem bd_put_float (T : Txt K mg) : Binds K T.fd_put_float ["x", "f", "mode"] [] := T.F_put_float.binds (ps := ["x", "f", "mode"]) fun _ _ _ _ _ _ => on3 fun _ _ _ => rfl
theorem ok_put_float (T : Txt K mg) : FnOk P w K mg base CX0 7 T.f_put_float T.fd_put_float ["x", "f", "mode"] (sp_put_float T.a_Ratio) := by
  refine T.F_put_float.ok sc_put_float (fun vs H Q E h => ?_) (fun cdv A outer s H vs Q E hr h => ?_)
  · obtain ⟨x_p, x_t, x_b, f, mode, rfl, _⟩ := h
    rfl
  · obtain ⟨x_p, x_t, x_b, f, mode, rfl, h_x, hpre, k⟩ := h
    have W := isf_float hpre.2.1 hpre.2.2
    have fb := fbits W
    have lp := lplaces W
    have fp := fun z => float_place hpre.1 z fb.1 fb.2 lp.1 lp.2
    have lb := lead_bounds hpre.1
    refine ⟨_, (pss_cons (ps_if (pt_cmpR op_eqI (pe_fld (pv 0) rfl) pe_int (nomark _)) (pss_one (ps_ret (pe_lst (pa_cons pe_int (pa_cons pe_int pa_nil))))) pss_nil)
      (pss_cons (ps_set (i := 3) sc_put_float.nd rfl (Or.inl rfl) (pe_cmpR op_lt (pe_fld (pv 0) rfl) pe_int (nomark _)))
      (pss_cons (ps_set (i := 4) sc_put_float.nd rfl (Or.inl rfl) (pe_dgetK (hu_of hr) (pe_globE rfl T.c_FRACTION_BITS) (pe_call (ok_width_of T) (hr.mono (by decide)) rfl T.m_width_of T.F_width_of.kp (bd_width_of T) .nil pass0 (pa_cons (pv 1) pa_nil)) (fun _ _ => rfl)))
      (pss_cons (ps_set (i := 5) sc_put_float.nd rfl (Or.inl rfl) (pe_un un_neg (pe_dgetK (hu_of hr) (pe_globE rfl T.c_LOWEST_PLACES) (pe_call (ok_width_of T) (hr.mono (by decide)) rfl T.m_width_of T.F_width_of.kp (bd_width_of T) .nil pass0 (pa_cons (pv 1) pa_nil)) (fun _ _ => rfl))))
      (pss_cons (ps_set (i := 6) sc_put_float.nd rfl (Or.inl rfl) (pe_callB (call_max2 rfl) (by rfl) T.n_max (by decide +kernel) (pa_cons (pe_op op_sub (pe_call (ok_leading_place T) (hr.mono (by decide)) rfl T.m_leading_place T.F_leading_place.kp (bd_leading_place T) .nil pass0 (pa_cons (pv 0) pa_nil)) (pv 4)) (pa_cons (pv 5) pa_nil))))
      (pss_cons (ps_set (i := 7) sc_put_float.nd rfl (Or.inl rfl) (pe_call (ok_quarters T) (hr.mono (by decide)) rfl T.m_quarters T.F_quarters.kp (bd_quarters T) .nil pass0 (pa_cons (pv 0) (pa_cons (pv 6) pa_nil))))
      (pss_cons (ps_set (i := 8) sc_put_float.nd rfl (Or.inl rfl) (pe_op op_add (pe_call (ok_rounded T) (hr.mono (by decide)) rfl T.m_rounded T.F_rounded.kp (bd_rounded T) .nil pass0 (pa_cons (pv 7) (pa_cons (pv 2) (pa_cons (pv 3) pa_nil)))) (pe_op op_shlB (pe_op op_sub (pv 6) (pv 5)) (pv 4))))
      (pss_cons (ps_if (pt_cmpR op_gt (pv 8) (pe_call (ok_greatest_raw T) (hr.mono (by decide)) rfl T.m_greatest_raw T.F_greatest_raw.kp (bd_greatest_raw T) .nil pass0 (pa_cons (pv 1) pa_nil)) (nomark _)) (pss_one (ps_ret (pe_lst (pa_cons (pe_op op_add (pe_globE rfl T.c_INEXACT) (pe_globE rfl T.c_HELD)) (pa_cons (pe_call (ok_end_raw T) (hr.mono (by decide)) rfl T.m_end_raw T.F_end_raw.kp (bd_end_raw T) .nil pass0 (pa_cons (pv 1) (pa_cons (pv 3) pa_nil))) pa_nil))))) pss_nil)
      (pss_cons (ps_if (PW.pt (pw_and (pt_val (pv 3)) (pw_and1 (pt_cmpR op_gt (pv 8) pe_int (nomark _))))) (pss_one (ps_aug (i := 8) sc_put_float.nd rfl (Or.inl rfl) (pe_call (ok_sign_bit T) (hr.mono (by decide)) rfl T.m_sign_bit T.F_sign_bit.kp (bd_sign_bit T) .nil pass0 (pa_cons (pv 1) pa_nil)) (pip_of iop_add))) pss_nil)
      (pss_one (ps_ret (pe_lst (pa_cons (pe_ifExp (pt_val (pe_call (ok_is_whole T) (hr.mono (by decide)) rfl T.m_is_whole T.F_is_whole.kp (bd_is_whole T) .nil pass0 (pa_cons (pv 7) pa_nil))) pe_int (pe_globE rfl T.c_INEXACT)) (pa_cons (pv 8) pa_nil)))))))))))))), ?_⟩
    refine ⟨_, rfl, fld_top h_x T.cl_Ratio T.na_Ratio_top ?_⟩
    refine ⟨_, _, rfl, rfl, _, rfl, ?_⟩
    refine iteB (fun c_1 => ?_) (fun c_1 => ?_)
    · replace c_1 : (x_t = (0)) := of_decide_eq_true c_1
      refine ⟨(by show 2 ≤ sizeLine; decide), fun p_2 h_3 => ?_⟩
      exact leafP (u := ((0), (0))) k (Same.new h_3) upd_same (by unfold m_put_float; rw [if_pos c_1]; try rfl)
    · replace c_1 : ¬ (x_t = (0)) := of_decide_eq_false c_1
      refine ⟨_, rfl, fld_top h_x T.cl_Ratio T.na_Ratio_top ?_⟩
      refine ⟨_, _, rfl, rfl, _, rfl, _, rfl, trivial, fun H_4 s_5 => ?_⟩
      refine ⟨T.a_FRACTION_BITS, .int (dictI [(32, 23), (64, 52)] (m_width_of f)), rfl, _, _, T.q_FRACTION_BITS, rfl, (by rcases W with h | h <;> rw [h] <;> rfl), _, rfl, _, rfl, trivial, fun H_6 s_7 => ?_⟩
      refine ⟨T.a_LOWEST_PLACES, .int (dictI [(32, 149), (64, 1074)] (m_width_of f)), rfl, _, _, T.q_LOWEST_PLACES, rfl, (by rcases W with h | h <;> rw [h] <;> rfl), _, rfl, _, rfl, _, _, _, rfl, (RatAt.keep (Same.trans s_5 s_7) h_x), hpre.1, fun H_8 s_9 => ?_⟩
      refine ⟨_, rfl, _, _, rfl, rfl, _, rfl, _, _, rfl, _, rfl, _, rfl, _, _, _, _, rfl, (RatAt.keep (Same.trans (Same.trans s_5 s_7) s_9) h_x), ⟨hpre.1, (fp (by assumption)).1, (fp (by assumption)).2.1, (fp (by assumption)).2.2.1⟩, fun H_10 s_11 => ?_⟩
      refine ⟨_, rfl, _, rfl, _, rfl, _, _, _, rfl, trivial, fun H_12 s_13 => ?_⟩
      refine ⟨_, rfl, _, rfl, _, _, rfl, rfl, _, rfl, _, _, rfl, rfl, cshl fb.1 (m := 20) (Sz.lit (by have := fp (by assumption); omega)) (by omega), _, _, rfl, rfl, _, rfl, _, rfl, _, rfl, hpre.2.1, fun H_14 s_15 => ?_⟩
      refine ⟨_, _, rfl, rfl, _, rfl, ?_⟩
      refine iteB (fun c_16 => ?_) (fun c_16 => ?_)
      · replace c_16 : ((m_greatest_raw f) < ((m_rounded (m_quarters x_t x_b (maxI ((m_leading_place x_t x_b) - (dictI [(32, 23), (64, 52)] (m_width_of f))) (-(dictI [(32, 149), (64, 1074)] (m_width_of f))))) mode (decide (x_t < (0)))) + (((maxI ((m_leading_place x_t x_b) - (dictI [(32, 23), (64, 52)] (m_width_of f))) (-(dictI [(32, 149), (64, 1074)] (m_width_of f)))) - (-(dictI [(32, 149), (64, 1074)] (m_width_of f)))) * 2 ^ ((dictI [(32, 23), (64, 52)] (m_width_of f)) : Int).toNat))) := of_decide_eq_true c_16
        refine ⟨_, _, rfl, rfl, _, rfl, _, rfl, _, _, rfl, hpre.2.1, fun H_17 s_18 => ?_⟩
        refine ⟨(by show 2 ≤ sizeLine; decide), fun p_19 h_20 => ?_⟩
        exact leafP (u := (((1) + (4)), (m_end_raw f (decide (x_t < (0)))))) k (Same.trans (Same.trans (Same.trans (Same.trans (Same.trans (Same.trans (Same.trans s_5 s_7) s_9) s_11) s_13) s_15) s_18) (Same.new h_20)) upd_same (by unfold m_put_float; rw [if_neg c_1, if_pos c_16]; try rfl)
      · replace c_16 : ¬ ((m_greatest_raw f) < ((m_rounded (m_quarters x_t x_b (maxI ((m_leading_place x_t x_b) - (dictI [(32, 23), (64, 52)] (m_width_of f))) (-(dictI [(32, 149), (64, 1074)] (m_width_of f))))) mode (decide (x_t < (0)))) + (((maxI ((m_leading_place x_t x_b) - (dictI [(32, 23), (64, 52)] (m_width_of f))) (-(dictI [(32, 149), (64, 1074)] (m_width_of f)))) - (-(dictI [(32, 149), (64, 1074)] (m_width_of f)))) * 2 ^ ((dictI [(32, 23), (64, 52)] (m_width_of f)) : Int).toNat))) := of_decide_eq_false c_16
        refine ⟨_, rfl, _, rfl, ?_⟩
        refine iteB (fun c_21 => ?_) (fun c_21 => ?_)
        · replace c_21 : (x_t < (0)) := of_decide_eq_true c_21
          refine ⟨_, rfl, _, _, rfl, rfl, _, rfl, ?_⟩
          refine iteB (fun c_22 => ?_) (fun c_22 => ?_)
          · replace c_22 : ((0) < ((m_rounded (m_quarters x_t x_b (maxI ((m_leading_place x_t x_b) - (dictI [(32, 23), (64, 52)] (m_width_of f))) (-(dictI [(32, 149), (64, 1074)] (m_width_of f))))) mode (decide (x_t < (0)))) + (((maxI ((m_leading_place x_t x_b) - (dictI [(32, 23), (64, 52)] (m_width_of f))) (-(dictI [(32, 149), (64, 1074)] (m_width_of f)))) - (-(dictI [(32, 149), (64, 1074)] (m_width_of f)))) * 2 ^ ((dictI [(32, 23), (64, 52)] (m_width_of f)) : Int).toNat))) := of_decide_eq_true c_22
            refine ⟨_, rfl, _, rfl, _, rfl, (isf_pos hpre.2.1), fun H_23 s_24 => ?_⟩
            refine ⟨_, _, rfl, rfl, _, rfl, _, rfl, trivial, fun H_25 s_26 => ?_⟩
            refine ⟨_, rfl, ?_⟩
            refine iteB (fun c_27 => ?_) (fun c_27 => ?_)
            · replace c_27 : ((m_is_whole (m_quarters x_t x_b (maxI ((m_leading_place x_t x_b) - (dictI [(32, 23), (64, 52)] (m_width_of f))) (-(dictI [(32, 149), (64, 1074)] (m_width_of f)))))) = true) := c_27
              refine ⟨_, rfl, (by show 2 ≤ sizeLine; decide), fun p_28 h_29 => ?_⟩
              exact leafP (u := ((0), (((m_rounded (m_quarters x_t x_b (maxI ((m_leading_place x_t x_b) - (dictI [(32, 23), (64, 52)] (m_width_of f))) (-(dictI [(32, 149), (64, 1074)] (m_width_of f))))) mode (decide (x_t < (0)))) + (((maxI ((m_leading_place x_t x_b) - (dictI [(32, 23), (64, 52)] (m_width_of f))) (-(dictI [(32, 149), (64, 1074)] (m_width_of f)))) - (-(dictI [(32, 149), (64, 1074)] (m_width_of f)))) * 2 ^ ((dictI [(32, 23), (64, 52)] (m_width_of f)) : Int).toNat)) + (m_sign_bit f)))) k (Same.trans (Same.trans (Same.trans (Same.trans (Same.trans (Same.trans (Same.trans (Same.trans s_5 s_7) s_9) s_11) s_13) s_15) s_24) s_26) (Same.new h_29)) upd_same (by unfold m_put_float; rw [if_neg c_1, if_neg c_16, if_pos c_21, if_pos c_22, if_pos c_27]; try rfl)
            · replace c_27 : ¬ ((m_is_whole (m_quarters x_t x_b (maxI ((m_leading_place x_t x_b) - (dictI [(32, 23), (64, 52)] (m_width_of f))) (-(dictI [(32, 149), (64, 1074)] (m_width_of f)))))) = true) := ne_true_of_eq_false c_27
              refine ⟨_, rfl, (by show 2 ≤ sizeLine; decide), fun p_30 h_31 => ?_⟩
              exact leafP (u := ((1), (((m_rounded (m_quarters x_t x_b (maxI ((m_leading_place x_t x_b) - (dictI [(32, 23), (64, 52)] (m_width_of f))) (-(dictI [(32, 149), (64, 1074)] (m_width_of f))))) mode (decide (x_t < (0)))) + (((maxI ((m_leading_place x_t x_b) - (dictI [(32, 23), (64, 52)] (m_width_of f))) (-(dictI [(32, 149), (64, 1074)] (m_width_of f)))) - (-(dictI [(32, 149), (64, 1074)] (m_width_of f)))) * 2 ^ ((dictI [(32, 23), (64, 52)] (m_width_of f)) : Int).toNat)) + (m_sign_bit f)))) k (Same.trans (Same.trans (Same.trans (Same.trans (Same.trans (Same.trans (Same.trans (Same.trans s_5 s_7) s_9) s_11) s_13) s_15) s_24) s_26) (Same.new h_31)) upd_same (by unfold m_put_float; rw [if_neg c_1, if_neg c_16, if_pos c_21, if_pos c_22, if_neg c_27]; try rfl)
          · replace c_22 : ¬ ((0) < ((m_rounded (m_quarters x_t x_b (maxI ((m_leading_place x_t x_b) - (dictI [(32, 23), (64, 52)] (m_width_of f))) (-(dictI [(32, 149), (64, 1074)] (m_width_of f))))) mode (decide (x_t < (0)))) + (((maxI ((m_leading_place x_t x_b) - (dictI [(32, 23), (64, 52)] (m_width_of f))) (-(dictI [(32, 149), (64, 1074)] (m_width_of f)))) - (-(dictI [(32, 149), (64, 1074)] (m_width_of f)))) * 2 ^ ((dictI [(32, 23), (64, 52)] (m_width_of f)) : Int).toNat))) := of_decide_eq_false c_22
            refine ⟨_, rfl, _, rfl, trivial, fun H_32 s_33 => ?_⟩
            refine ⟨_, rfl, ?_⟩
            refine iteB (fun c_34 => ?_) (fun c_34 => ?_)
            · replace c_34 : ((m_is_whole (m_quarters x_t x_b (maxI ((m_leading_place x_t x_b) - (dictI [(32, 23), (64, 52)] (m_width_of f))) (-(dictI [(32, 149), (64, 1074)] (m_width_of f)))))) = true) := c_34
              refine ⟨_, rfl, (by show 2 ≤ sizeLine; decide), fun p_35 h_36 => ?_⟩
              exact leafP (u := ((0), ((m_rounded (m_quarters x_t x_b (maxI ((m_leading_place x_t x_b) - (dictI [(32, 23), (64, 52)] (m_width_of f))) (-(dictI [(32, 149), (64, 1074)] (m_width_of f))))) mode (decide (x_t < (0)))) + (((maxI ((m_leading_place x_t x_b) - (dictI [(32, 23), (64, 52)] (m_width_of f))) (-(dictI [(32, 149), (64, 1074)] (m_width_of f)))) - (-(dictI [(32, 149), (64, 1074)] (m_width_of f)))) * 2 ^ ((dictI [(32, 23), (64, 52)] (m_width_of f)) : Int).toNat)))) k (Same.trans (Same.trans (Same.trans (Same.trans (Same.trans (Same.trans (Same.trans s_5 s_7) s_9) s_11) s_13) s_15) s_33) (Same.new h_36)) upd_same (by unfold m_put_float; rw [if_neg c_1, if_neg c_16, if_pos c_21, if_neg c_22, if_pos c_34]; try rfl)
            · replace c_34 : ¬ ((m_is_whole (m_quarters x_t x_b (maxI ((m_leading_place x_t x_b) - (dictI [(32, 23), (64, 52)] (m_width_of f))) (-(dictI [(32, 149), (64, 1074)] (m_width_of f)))))) = true) := ne_true_of_eq_false c_34
              refine ⟨_, rfl, (by show 2 ≤ sizeLine; decide), fun p_37 h_38 => ?_⟩
              exact leafP (u := ((1), ((m_rounded (m_quarters x_t x_b (maxI ((m_leading_place x_t x_b) - (dictI [(32, 23), (64, 52)] (m_width_of f))) (-(dictI [(32, 149), (64, 1074)] (m_width_of f))))) mode (decide (x_t < (0)))) + (((maxI ((m_leading_place x_t x_b) - (dictI [(32, 23), (64, 52)] (m_width_of f))) (-(dictI [(32, 149), (64, 1074)] (m_width_of f)))) - (-(dictI [(32, 149), (64, 1074)] (m_width_of f)))) * 2 ^ ((dictI [(32, 23), (64, 52)] (m_width_of f)) : Int).toNat)))) k (Same.trans (Same.trans (Same.trans (Same.trans (Same.trans (Same.trans (Same.trans s_5 s_7) s_9) s_11) s_13) s_15) s_33) (Same.new h_38)) upd_same (by unfold m_put_float; rw [if_neg c_1, if_neg c_16, if_pos c_21, if_neg c_22, if_neg c_34]; try rfl)
        · replace c_21 : ¬ (x_t < (0)) := of_decide_eq_false c_21
          refine iteF ?_
          refine ⟨_, rfl, _, rfl, trivial, fun H_39 s_40 => ?_⟩
          refine ⟨_, rfl, ?_⟩
          refine iteB (fun c_41 => ?_) (fun c_41 => ?_)
          · replace c_41 : ((m_is_whole (m_quarters x_t x_b (maxI ((m_leading_place x_t x_b) - (dictI [(32, 23), (64, 52)] (m_width_of f))) (-(dictI [(32, 149), (64, 1074)] (m_width_of f)))))) = true) := c_41
            refine ⟨_, rfl, (by show 2 ≤ sizeLine; decide), fun p_42 h_43 => ?_⟩
            exact leafP (u := ((0), ((m_rounded (m_quarters x_t x_b (maxI ((m_leading_place x_t x_b) - (dictI [(32, 23), (64, 52)] (m_width_of f))) (-(dictI [(32, 149), (64, 1074)] (m_width_of f))))) mode (decide (x_t < (0)))) + (((maxI ((m_leading_place x_t x_b) - (dictI [(32, 23), (64, 52)] (m_width_of f))) (-(dictI [(32, 149), (64, 1074)] (m_width_of f)))) - (-(dictI [(32, 149), (64, 1074)] (m_width_of f)))) * 2 ^ ((dictI [(32, 23), (64, 52)] (m_width_of f)) : Int).toNat)))) k (Same.trans (Same.trans (Same.trans (Same.trans (Same.trans (Same.trans (Same.trans s_5 s_7) s_9) s_11) s_13) s_15) s_40) (Same.new h_43)) upd_same (by unfold m_put_float; rw [if_neg c_1, if_neg c_16, if_neg c_21, if_pos c_41]; try rfl)
          · replace c_41 : ¬ ((m_is_whole (m_quarters x_t x_b (maxI ((m_leading_place x_t x_b) - (dictI [(32, 23), (64, 52)] (m_width_of f))) (-(dictI [(32, 149), (64, 1074)] (m_width_of f)))))) = true) := ne_true_of_eq_false c_41
            refine ⟨_, rfl, (by show 2 ≤ sizeLine; decide), fun p_44 h_45 => ?_⟩
            exact leafP (u := ((1), ((m_rounded (m_quarters x_t x_b (maxI ((m_leading_place x_t x_b) - (dictI [(32, 23), (64, 52)] (m_width_of f))) (-(dictI [(32, 149), (64, 1074)] (m_width_of f))))) mode (decide (x_t < (0)))) + (((maxI ((m_leading_place x_t x_b) - (dictI [(32, 23), (64, 52)] (m_width_of f))) (-(dictI [(32, 149), (64, 1074)] (m_width_of f)))) - (-(dictI [(32, 149), (64, 1074)] (m_width_of f)))) * 2 ^ ((dictI [(32, 23), (64, 52)] (m_width_of f)) : Int).toNat)))) k (Same.trans (Same.trans (Same.trans (Same.trans (Same.trans (Same.trans (Same.trans s_5 s_7) s_9) s_11) s_13) s_15) s_40) (Same.new h_45)) upd_same (by unfold m_put_float; rw [if_neg c_1, if_neg c_16, if_neg c_21, if_neg c_41]; try rfl)
noncomputable def sp_put_ratio (C : Addr) : Sp := fun vs H Q _ => ∃ (x_p : Addr) (x_t x_b : Int) (f : Int) (how : Int), vs = [.ref x_p, .int f, .int how] ∧ RatAt C H x_p x_t x_b ∧ (RB x_t x_b ∧ m_is_format f = true) ∧ ∀ (H' : Hp) (p : Addr), Same H H' → H' p = some (.lst [.int (m_put_ratio x_t x_b f how).1, .int (m_put_ratio x_t x_b f how).2]) → Q (.ref p) H'
theorem bd_put_ratio (T : Txt K mg) : Binds K T.fd_put_ratio ["x", "f", "how"] [] := T.F_put_ratio.binds (ps := ["x", "f", "how"]) fun _ _ _ _ _ _ => on3 fun _ _ _ => rfl
theorem ok_put_ratio (T : Txt K mg) : FnOk P w K mg base CX0 8 T.f_put_ratio T.fd_put_ratio ["x", "f", "how"] (sp_put_ratio T.a_Ratio) := by
  refine T.F_put_ratio.ok sc_put_ratio (fun vs H Q E h => ?_) (fun cdv A outer s H vs Q E hr h => ?_)
  · obtain ⟨x_p, x_t, x_b, f, how, rfl, _⟩ := h
    rfl
  · obtain ⟨x_p, x_t, x_b, f, how, rfl, h_x, hpre, k⟩ := h
    refine ⟨_, (pss_cons (ps_set (i := 3) sc_put_ratio.nd rfl (Or.inl rfl) (pe_call (ok_kind_of T) (hr.mono (by decide)) rfl T.m_kind_of T.F_kind_of.kp (bd_kind_of T) .nil pass0 (pa_cons (pv 1) pa_nil)))
      (pss_cons (ps_if (pt_cmpR op_eqI (pv 3) (pe_globE rfl T.c_TRUTH) (nomark _)) (pss_one (ps_ret (pe_lst (pa_cons pe_int (pa_cons (pe_ifExp (pt_cmpR op_eqI (pe_fld (pv 0) rfl) pe_int (nomark _)) pe_int pe_int) pa_nil))))) pss_nil)
      (pss_cons (ps_if (pt_cmpR op_eqI (pv 3) (pe_globE rfl T.c_FLOAT) (nomark _)) (pss_one (ps_ret (pe_call (ok_put_float T) (hr.mono (by decide)) rfl T.m_put_float T.F_put_float.kp (bd_put_float T) .nil pass0 (pa_cons (pv 0) (pa_cons (pv 1) (pa_cons (pe_call (ok_mode_of T) (hr.mono (by decide)) rfl T.m_mode_of T.F_mode_of.kp (bd_mode_of T) .nil pass0 (pa_cons (pv 2) pa_nil)) pa_nil)))))) pss_nil)
      (pss_one (ps_ret (pe_call (ok_put_fixed T) (hr.mono (by decide)) rfl T.m_put_fixed T.F_put_fixed.kp (bd_put_fixed T) .nil pass0 (pa_cons (pv 0) (pa_cons (pv 1) (pa_cons (pv 2) pa_nil))))))))), ?_⟩
    refine ⟨_, rfl, _, rfl, trivial, fun H_1 s_2 => ?_⟩
    refine ⟨_, rfl, _, _, rfl, rfl, _, rfl, ?_⟩
    refine iteB (fun c_3 => ?_) (fun c_3 => ?_)
    · replace c_3 : ((m_kind_of f) = (0)) := of_decide_eq_true c_3
      refine ⟨_, rfl, fld_top (RatAt.keep s_2 h_x) T.cl_Ratio T.na_Ratio_top ?_⟩
      refine ⟨_, _, rfl, rfl, _, rfl, ?_⟩
      refine iteB (fun c_4 => ?_) (fun c_4 => ?_)
      · replace c_4 : (x_t = (0)) := of_decide_eq_true c_4
        refine ⟨(by show 2 ≤ sizeLine; decide), fun p_5 h_6 => ?_⟩
        exact leafP (u := ((0), (0))) k (Same.trans s_2 (Same.new h_6)) upd_same (by unfold m_put_ratio; rw [if_pos c_3, if_pos c_4]; try rfl)
      · replace c_4 : ¬ (x_t = (0)) := of_decide_eq_false c_4
        refine ⟨(by show 2 ≤ sizeLine; decide), fun p_7 h_8 => ?_⟩
        exact leafP (u := ((0), (1))) k (Same.trans s_2 (Same.new h_8)) upd_same (by unfold m_put_ratio; rw [if_pos c_3, if_neg c_4]; try rfl)
    · replace c_3 : ¬ ((m_kind_of f) = (0)) := of_decide_eq_false c_3
      refine ⟨_, rfl, _, _, rfl, rfl, _, rfl, ?_⟩
      refine iteB (fun c_9 => ?_) (fun c_9 => ?_)
      · replace c_9 : ((m_kind_of f) = (3)) := of_decide_eq_true c_9
        refine ⟨_, rfl, _, rfl, _, rfl, _, rfl, trivial, fun H_10 s_11 => ?_⟩
        refine ⟨_, _, _, _, _, rfl, (RatAt.keep (Same.trans s_2 s_11) h_x), ⟨hpre.1, hpre.2, (by assumption)⟩, fun H_12 p_14 s_13 h_15 => ?_⟩
        exact leafP (u := (m_put_float x_t x_b f (m_mode_of how))) k (Same.trans (Same.trans s_2 s_11) s_13) h_15 (by unfold m_put_ratio; rw [if_neg c_3, if_pos c_9]; try rfl)
      · replace c_9 : ¬ ((m_kind_of f) = (3)) := of_decide_eq_false c_9
        refine ⟨_, rfl, _, rfl, _, rfl, _, _, _, _, _, rfl, (RatAt.keep s_2 h_x), hpre, fun H_16 p_18 s_17 h_19 => ?_⟩
        exact leafP (u := (m_put_fixed x_t x_b f how)) k (Same.trans s_2 s_17) h_19 (by unfold m_put_ratio; rw [if_neg c_3, if_neg c_9]; try rfl)
noncomputable def sp_read (K : PySem.W.Frag) : Sp := fun vs H Q _ => ∃ (f how : Int) (tp : Addr) (t : List UInt8), vs = [.int f, .int how, .ref tp] ∧ SqL K H tp ((tI t).map V.int) ∧ ∀ (H' : Hp) (p : Addr), H' p = some (.lst ((m_read f how t).map V.int)) → Q (.ref p) H'
theorem bd_read (T : Txt K mg) : Binds K T.fd_read ["f", "how", "text"] [] := T.F_read.binds (ps := ["f", "how", "text"]) fun _ _ _ _ _ _ => on3 fun _ _ _ => rfl
theorem ok_read (T : Txt K mg) : FnOk P w K mg base CX0 9 T.f_read T.fd_read ["f", "how", "text"] (sp_read K) := by
  refine T.F_read.ok sc_read (fun vs H Q E h => ?_) (fun cdv A outer s H vs Q E hr h => ?_)
  · obtain ⟨f, how, tp, t, rfl, _⟩ := h
    rfl
  · obtain ⟨f, how, tp, t, rfl, hS, k⟩ := h
    obtain ⟨EE, hEE⟩ : ∃ EE : XK, EE = fun v _ _ => ∃ q : Nat, v = .int (q : Int) 0 ∧ My.rNumber t = .bad q := ⟨_, rfl⟩
    refine ⟨_, (pss_cons (ps_if (PW.pt (pw_or (pt_not (pt_val (pe_call (ok_may_put T) (hr.mono (by decide)) rfl T.m_may_put T.F_may_put.kp (bd_may_put T) .nil pass0 (pa_cons (pv 0) (pa_cons (pv 1) pa_nil))))) (pw_or1 (pt_cmpR op_gt (pe_callB call_lenI (by rfl) T.n_len (by decide +kernel) (pa_cons (pv 2) pa_nil)) (pe_globE rfl T.c_MOST_BYTES) (nomark _))))) (pss_one (ps_ret (pe_lst (pa_cons (pe_globE rfl T.c_WRONG_ARGUMENT) pa_nil)))) pss_nil)
      (pss_cons (ps_try (E := EE) (fi := 4) sc_read.nd rfl rfl rfl rfl rfl T.xc_NoNumber rfl T.m_NoNumber rfl (fun pp xe hx => (pss_one (ps_set (i := 3) sc_read.nd rfl (Or.inl rfl) (pe_call (ok_read_number T) (hr.mono (by decide)) rfl T.m_read_number T.F_read_number.kp (bd_read_number T) .nil hx (pa_cons (pv 2) pa_nil))))) (fun ex => (pss_one (ps_ret (pe_lst (pa_cons (pe_globE rfl T.c_NO_SUCH_TEXT) (pa_cons (pe_fldXK (K := K) rfl (pv 4) rfl) pa_nil)))))))
      (pss_one (ps_ret (pe_op op_cat (pe_lst (pa_cons pe_int pa_nil)) (pe_call (ok_put_ratio T) (hr.mono (by decide)) rfl T.m_put_ratio T.F_put_ratio.kp (bd_put_ratio T) .nil pass0 (pa_cons (pv 3) (pa_cons (pv 0) (pa_cons (pv 1) pa_nil))))))))), ?_⟩
    refine ⟨_, rfl, _, rfl, _, _, rfl, trivial, fun H1 s1 => ?_⟩
    refine ⟨_, rfl, ?_⟩
    by_cases g : m_may_put f how = true
    · rw [g]
      refine iteF ?_
      have hS1 := s1.seq hS
      refine ⟨_, rfl, tp, tI t, rfl, hS1, _, _, rfl, rfl, _, rfl, ?_⟩
      refine iteB (fun c => ?_) (fun c => ?_)
      · have c1 : ¬ t.length ≤ 64 := by
          have := of_decide_eq_true c
          rw [List.length_map] at this
          omega
        refine ⟨(by show 1 ≤ sizeLine; decide), fun p hp => ?_⟩
        exact leafI (u := [(-1)]) k upd_same (by unfold m_read; rw [if_neg (fun z => c1 z.2)])
      · have c1 : t.length ≤ 64 := by
          have := of_decide_eq_false c
          rw [List.length_map] at this
          omega
        have mr : m_read f how t = (match My.rNumber t with | .bad q => [-6, (q : Int)] | .ok x _ _ => [0, (m_put_ratio x.1 x.2 f how).1, (m_put_ratio x.1 x.2 f how).2]) := by
          unfold m_read
          rw [if_pos ⟨g, c1⟩]
          all_goals (cases My.rNumber t <;> rfl)
        refine ⟨?_, fun i H2 he σ1 ex dx hex hdx hlen => ?_⟩
        · refine ⟨_, rfl, tp, t, rfl, hS1, c1, fun q e H2 s2 => ?_, fun x p' r' e H2 a s2 ra => ?_⟩
          · rw [hEE]; exact ⟨q, rfl, e⟩
          · refine ⟨(by show 1 ≤ sizeLine; decide), fun p0 hp0 => ?_⟩
            refine ⟨_, rfl, _, rfl, _, rfl, a, x.1, x.2, f, how, rfl, ra.keep (Same.new hp0), ⟨read_rb e, may_fmt g⟩, fun H4 p4 s4 h4 => ?_⟩
            refine ⟨p0, p4, _, _, rfl, rfl, s4 _ _ upd_same, h4, (by show 3 ≤ sizeLine; decide), fun p5 hp5 => ?_⟩
            refine leafI (u := [0, (m_put_ratio x.1 x.2 f how).1, (m_put_ratio x.1 x.2 f how).2]) k upd_same ?_
            rw [mr, e]
        · rw [hEE] at he
          obtain ⟨q, eq, e⟩ := he
          have iq : i = (q : Int) := by injection eq
          subst iq
          have hne : dx ≠ ex := fun z => by rw [z, hex] at hdx; cases hdx
          refine ⟨_, List.getElem?_set_self (by rw [hlen]; show 4 < 5; decide), ex, T.a_NoNumber, T.f_NoNumber_init, dx, q, rfl, upd_same, ?_, T.xc_NoNumber, T.na_NoNumber_place, ?_⟩
          · rw [upd_ne hne]; exact hdx
          · refine ⟨(by show 2 ≤ sizeLine; decide), fun p hp => ?_⟩
            refine leafI (u := [-6, (q : Int)]) k upd_same ?_
            rw [mr, e]
    · have g0 : m_may_put f how = false := by simpa using g
      rw [g0]
      refine iteT ?_
      refine ⟨(by show 1 ≤ sizeLine; decide), fun p hp => ?_⟩
      exact leafI (u := [(-1)]) k upd_same (by unfold m_read; rw [if_neg (fun z => g z.1)])
theorem bt_read (T : Txt K mg) : ∀ (s : Shared) (us : List Value), us.length = (["f", "how", "text"] : List Str).length → BindsTo s T.fd_read ⟨us, []⟩ ((["f", "how", "text"] : List Str).zip us) := by
  obtain ⟨oc, od, kV, doc, pm, an, cdv, ct, osl, e, lk, hcd⟩ := T.F_read.ex
  intro s us hu
  rw [e]
  exact match us, hu with | [_, _, _], _ => .of_eq rfl
end
noncomputable def txt_mk {K : PySem.W.Frag} {h : Heap} {mg : Str → Option Value} (X : K.In h) (G : h.Ns mainGlobals mg)
    {f_kind_of : Addr} {od_kind_of an_kind_of : Option Addr} {sl_kind_of : Array (Option Value)} {oc_kind_of kV_kind_of dc_kind_of pm_kind_of cd_kind_of ct_kind_of : Value}
    {f_width_of : Addr} {od_width_of an_width_of : Option Addr} {sl_width_of : Array (Option Value)} {oc_width_of kV_width_of dc_width_of pm_width_of cd_width_of ct_width_of : Value}
    {f_point_of : Addr} {od_point_of an_point_of : Option Addr} {sl_point_of : Array (Option Value)} {oc_point_of kV_point_of dc_point_of pm_point_of cd_point_of ct_point_of : Value}
    {f_is_format : Addr} {od_is_format an_is_format : Option Addr} {sl_is_format : Array (Option Value)} {oc_is_format kV_is_format dc_is_format pm_is_format cd_is_format ct_is_format : Value}
    {f_sign_bit : Addr} {od_sign_bit an_sign_bit : Option Addr} {sl_sign_bit : Array (Option Value)} {oc_sign_bit kV_sign_bit dc_sign_bit pm_sign_bit cd_sign_bit ct_sign_bit : Value}
    {f_infinity_raw : Addr} {od_infinity_raw an_infinity_raw : Option Addr} {sl_infinity_raw : Array (Option Value)} {oc_infinity_raw kV_infinity_raw dc_infinity_raw pm_infinity_raw cd_infinity_raw ct_infinity_raw : Value}
    {f_greatest_raw : Addr} {od_greatest_raw an_greatest_raw : Option Addr} {sl_greatest_raw : Array (Option Value)} {oc_greatest_raw kV_greatest_raw dc_greatest_raw pm_greatest_raw cd_greatest_raw ct_greatest_raw : Value}
    {f_least_raw : Addr} {od_least_raw an_least_raw : Option Addr} {sl_least_raw : Array (Option Value)} {oc_least_raw kV_least_raw dc_least_raw pm_least_raw cd_least_raw ct_least_raw : Value}
    {f_digits_from : Addr} {od_digits_from an_digits_from : Option Addr} {sl_digits_from : Array (Option Value)} {oc_digits_from kV_digits_from dc_digits_from pm_digits_from cd_digits_from ct_digits_from : Value}
    {f_number_of : Addr} {od_number_of an_number_of : Option Addr} {sl_number_of : Array (Option Value)} {oc_number_of kV_number_of dc_number_of pm_number_of cd_number_of ct_number_of : Value}
    {f_power_of_ten : Addr} {od_power_of_ten an_power_of_ten : Option Addr} {sl_power_of_ten : Array (Option Value)} {oc_power_of_ten kV_power_of_ten dc_power_of_ten pm_power_of_ten cd_power_of_ten ct_power_of_ten : Value}
    {f_stands_here : Addr} {od_stands_here an_stands_here : Option Addr} {sl_stands_here : Array (Option Value)} {oc_stands_here kV_stands_here dc_stands_here pm_stands_here cd_stands_here ct_stands_here : Value}
    {f_passes : Addr} {od_passes an_passes : Option Addr} {sl_passes : Array (Option Value)} {oc_passes kV_passes dc_passes pm_passes cd_passes ct_passes : Value}
    {f_passes_before_digit : Addr} {od_passes_before_digit an_passes_before_digit : Option Addr} {sl_passes_before_digit : Array (Option Value)} {oc_passes_before_digit kV_passes_before_digit dc_passes_before_digit pm_passes_before_digit cd_passes_before_digit ct_passes_before_digit : Value}
    {f_read_digits : Addr} {od_read_digits an_read_digits : Option Addr} {sl_read_digits : Array (Option Value)} {oc_read_digits kV_read_digits dc_read_digits pm_read_digits cd_read_digits ct_read_digits : Value}
    {f_read_divisor : Addr} {od_read_divisor an_read_divisor : Option Addr} {sl_read_divisor : Array (Option Value)} {oc_read_divisor kV_read_divisor dc_read_divisor pm_read_divisor cd_read_divisor ct_read_divisor : Value}
    {f_read_exponent : Addr} {od_read_exponent an_read_exponent : Option Addr} {sl_read_exponent : Array (Option Value)} {oc_read_exponent kV_read_exponent dc_read_exponent pm_read_exponent cd_read_exponent ct_read_exponent : Value}
    {f_times_ten_to : Addr} {od_times_ten_to an_times_ten_to : Option Addr} {sl_times_ten_to : Array (Option Value)} {oc_times_ten_to kV_times_ten_to dc_times_ten_to pm_times_ten_to cd_times_ten_to ct_times_ten_to : Value}
    {f_read_size : Addr} {od_read_size an_read_size : Option Addr} {sl_read_size : Array (Option Value)} {oc_read_size kV_read_size dc_read_size pm_read_size cd_read_size ct_read_size : Value}
    {f_read_number : Addr} {od_read_number an_read_number : Option Addr} {sl_read_number : Array (Option Value)} {oc_read_number kV_read_number dc_read_number pm_read_number cd_read_number ct_read_number : Value}
    {f_steps_of : Addr} {od_steps_of an_steps_of : Option Addr} {sl_steps_of : Array (Option Value)} {oc_steps_of kV_steps_of dc_steps_of pm_steps_of cd_steps_of ct_steps_of : Value}
    {f_is_mode : Addr} {od_is_mode an_is_mode : Option Addr} {sl_is_mode : Array (Option Value)} {oc_is_mode kV_is_mode dc_is_mode pm_is_mode cd_is_mode ct_is_mode : Value}
    {f_in_steps : Addr} {od_in_steps an_in_steps : Option Addr} {sl_in_steps : Array (Option Value)} {oc_in_steps kV_in_steps dc_in_steps pm_in_steps cd_in_steps ct_in_steps : Value}
    {f_leading_place : Addr} {od_leading_place an_leading_place : Option Addr} {sl_leading_place : Array (Option Value)} {oc_leading_place kV_leading_place dc_leading_place pm_leading_place cd_leading_place ct_leading_place : Value}
    {f_quarters : Addr} {od_quarters an_quarters : Option Addr} {sl_quarters : Array (Option Value)} {oc_quarters kV_quarters dc_quarters pm_quarters cd_quarters ct_quarters : Value}
    {f_is_whole : Addr} {od_is_whole an_is_whole : Option Addr} {sl_is_whole : Array (Option Value)} {oc_is_whole kV_is_whole dc_is_whole pm_is_whole cd_is_whole ct_is_whole : Value}
    {f_goes_far : Addr} {od_goes_far an_goes_far : Option Addr} {sl_goes_far : Array (Option Value)} {oc_goes_far kV_goes_far dc_goes_far pm_goes_far cd_goes_far ct_goes_far : Value}
    {f_rounded : Addr} {od_rounded an_rounded : Option Addr} {sl_rounded : Array (Option Value)} {oc_rounded kV_rounded dc_rounded pm_rounded cd_rounded ct_rounded : Value}
    {f_mode_of : Addr} {od_mode_of an_mode_of : Option Addr} {sl_mode_of : Array (Option Value)} {oc_mode_of kV_mode_of dc_mode_of pm_mode_of cd_mode_of ct_mode_of : Value}
    {f_holds : Addr} {od_holds an_holds : Option Addr} {sl_holds : Array (Option Value)} {oc_holds kV_holds dc_holds pm_holds cd_holds ct_holds : Value}
    {f_may_put : Addr} {od_may_put an_may_put : Option Addr} {sl_may_put : Array (Option Value)} {oc_may_put kV_may_put dc_may_put pm_may_put cd_may_put ct_may_put : Value}
    {f_end_raw : Addr} {od_end_raw an_end_raw : Option Addr} {sl_end_raw : Array (Option Value)} {oc_end_raw kV_end_raw dc_end_raw pm_end_raw cd_end_raw ct_end_raw : Value}
    {f_put_ratio : Addr} {od_put_ratio an_put_ratio : Option Addr} {sl_put_ratio : Array (Option Value)} {oc_put_ratio kV_put_ratio dc_put_ratio pm_put_ratio cd_put_ratio ct_put_ratio : Value}
    {f_put_fixed : Addr} {od_put_fixed an_put_fixed : Option Addr} {sl_put_fixed : Array (Option Value)} {oc_put_fixed kV_put_fixed dc_put_fixed pm_put_fixed cd_put_fixed ct_put_fixed : Value}
    {f_put_float : Addr} {od_put_float an_put_float : Option Addr} {sl_put_float : Array (Option Value)} {oc_put_float kV_put_float dc_put_float pm_put_float cd_put_float ct_put_float : Value}
    {f_read : Addr} {od_read an_read : Option Addr} {sl_read : Array (Option Value)} {oc_read kV_read dc_read pm_read cd_read ct_read : Value}
    {a_Ratio f_Ratio_init : Addr} {od_Ratio_init an_Ratio_init : Option Addr} {sl_Ratio_init : Array (Option Value)} {oc_Ratio_init kV_Ratio_init dc_Ratio_init pm_Ratio_init cd_Ratio_init ct_Ratio_init : Value}
    {a_NoNumber f_NoNumber_init N_NoNumber : Addr} {od_NoNumber_init an_NoNumber_init dd_NoNumber : Option Addr} {sl_NoNumber_init : Array (Option Value)} {oc_NoNumber_init kV_NoNumber_init dc_NoNumber_init pm_NoNumber_init cd_NoNumber_init ct_NoNumber_init : Value} {nm_NoNumber q_NoNumber : Str} {bs_NoNumber sub_NoNumber : List Value} {sn_NoNumber : List Str} {ab_NoNumber : Bool} {col_NoNumber : Option Bool} {v0_NoNumber v1_NoNumber v2_NoNumber v3_NoNumber v5_NoNumber : Option Value} {oN_NoNumber : Obj}
    {a_Scan f_Scan_init : Addr} {od_Scan_init an_Scan_init : Option Addr} {sl_Scan_init : Array (Option Value)} {oc_Scan_init kV_Scan_init dc_Scan_init pm_Scan_init cd_Scan_init ct_Scan_init : Value}
    {tk_TRUTH : Tok}
    {tk_SIGNED : Tok}
    {tk_UNSIGNED : Tok}
    {tk_FLOAT : Tok}
    {tk_T : Tok}
    {tk_F32 : Tok}
    {tk_F64 : Tok}
    {a_WIDTHS : Addr} {o_WIDTHS : Obj}
    {a_FRACTION_BITS : Addr} {o_FRACTION_BITS : Obj}
    {a_LOWEST_PLACES : Addr} {o_LOWEST_PLACES : Obj}
    {tk_NOUGHT : Tok}
    {tk_MOST_DIGITS : Tok}
    {tk_MOST_EXPONENT_DIGITS : Tok}
    {tk_MINUS : Tok}
    {tk_POINT : Tok}
    {tk_SLASH : Tok}
    {tk_LETTER_E : Tok}
    {tk_INEXACT : Tok}
    {tk_HELD : Tok}
    {tk_NEAREST_EVEN : Tok}
    {tk_TOWARD_NOUGHT : Tok}
    {tk_UP : Tok}
    {tk_DOWN : Tok}
    {tk_NEAREST_FAR : Tok}
    {tk_WRONG_ARGUMENT : Tok}
    {tk_NO_SUCH_TEXT : Tok}
    {tk_MOST_BYTES : Tok}
    (a_kind_of : PySem.W.nsIn K mainGlobals "kind_of" = some (some (.ref f_kind_of))) (l_kind_of : K.lookup f_kind_of = some ⟨oc_kind_of, od_kind_of, .func (PySem.W.fnOf "kind_of" "kind_of" (defArgs s_kind_of) (defBody s_kind_of) (defScope s_kind_of) .none kV_kind_of dc_kind_of pm_kind_of an_kind_of cd_kind_of ct_kind_of), sl_kind_of⟩) (k1_kind_of : PySem.W.codeIn K cd_kind_of "kind_of" = true) (k2_kind_of : PySem.W.keepIn K (.ref f_kind_of) = true)
    (a_width_of : PySem.W.nsIn K mainGlobals "width_of" = some (some (.ref f_width_of))) (l_width_of : K.lookup f_width_of = some ⟨oc_width_of, od_width_of, .func (PySem.W.fnOf "width_of" "width_of" (defArgs s_width_of) (defBody s_width_of) (defScope s_width_of) .none kV_width_of dc_width_of pm_width_of an_width_of cd_width_of ct_width_of), sl_width_of⟩) (k1_width_of : PySem.W.codeIn K cd_width_of "width_of" = true) (k2_width_of : PySem.W.keepIn K (.ref f_width_of) = true)
    (a_point_of : PySem.W.nsIn K mainGlobals "point_of" = some (some (.ref f_point_of))) (l_point_of : K.lookup f_point_of = some ⟨oc_point_of, od_point_of, .func (PySem.W.fnOf "point_of" "point_of" (defArgs s_point_of) (defBody s_point_of) (defScope s_point_of) .none kV_point_of dc_point_of pm_point_of an_point_of cd_point_of ct_point_of), sl_point_of⟩) (k1_point_of : PySem.W.codeIn K cd_point_of "point_of" = true) (k2_point_of : PySem.W.keepIn K (.ref f_point_of) = true)
    (a_is_format : PySem.W.nsIn K mainGlobals "is_format" = some (some (.ref f_is_format))) (l_is_format : K.lookup f_is_format = some ⟨oc_is_format, od_is_format, .func (PySem.W.fnOf "is_format" "is_format" (defArgs s_is_format) (defBody s_is_format) (defScope s_is_format) .none kV_is_format dc_is_format pm_is_format an_is_format cd_is_format ct_is_format), sl_is_format⟩) (k1_is_format : PySem.W.codeIn K cd_is_format "is_format" = true) (k2_is_format : PySem.W.keepIn K (.ref f_is_format) = true)
    (a_sign_bit : PySem.W.nsIn K mainGlobals "sign_bit" = some (some (.ref f_sign_bit))) (l_sign_bit : K.lookup f_sign_bit = some ⟨oc_sign_bit, od_sign_bit, .func (PySem.W.fnOf "sign_bit" "sign_bit" (defArgs s_sign_bit) (defBody s_sign_bit) (defScope s_sign_bit) .none kV_sign_bit dc_sign_bit pm_sign_bit an_sign_bit cd_sign_bit ct_sign_bit), sl_sign_bit⟩) (k1_sign_bit : PySem.W.codeIn K cd_sign_bit "sign_bit" = true) (k2_sign_bit : PySem.W.keepIn K (.ref f_sign_bit) = true)
    (a_infinity_raw : PySem.W.nsIn K mainGlobals "infinity_raw" = some (some (.ref f_infinity_raw))) (l_infinity_raw : K.lookup f_infinity_raw = some ⟨oc_infinity_raw, od_infinity_raw, .func (PySem.W.fnOf "infinity_raw" "infinity_raw" (defArgs s_infinity_raw) (defBody s_infinity_raw) (defScope s_infinity_raw) .none kV_infinity_raw dc_infinity_raw pm_infinity_raw an_infinity_raw cd_infinity_raw ct_infinity_raw), sl_infinity_raw⟩) (k1_infinity_raw : PySem.W.codeIn K cd_infinity_raw "infinity_raw" = true) (k2_infinity_raw : PySem.W.keepIn K (.ref f_infinity_raw) = true)
    (a_greatest_raw : PySem.W.nsIn K mainGlobals "greatest_raw" = some (some (.ref f_greatest_raw))) (l_greatest_raw : K.lookup f_greatest_raw = some ⟨oc_greatest_raw, od_greatest_raw, .func (PySem.W.fnOf "greatest_raw" "greatest_raw" (defArgs s_greatest_raw) (defBody s_greatest_raw) (defScope s_greatest_raw) .none kV_greatest_raw dc_greatest_raw pm_greatest_raw an_greatest_raw cd_greatest_raw ct_greatest_raw), sl_greatest_raw⟩) (k1_greatest_raw : PySem.W.codeIn K cd_greatest_raw "greatest_raw" = true) (k2_greatest_raw : PySem.W.keepIn K (.ref f_greatest_raw) = true)
    (a_least_raw : PySem.W.nsIn K mainGlobals "least_raw" = some (some (.ref f_least_raw))) (l_least_raw : K.lookup f_least_raw = some ⟨oc_least_raw, od_least_raw, .func (PySem.W.fnOf "least_raw" "least_raw" (defArgs s_least_raw) (defBody s_least_raw) (defScope s_least_raw) .none kV_least_raw dc_least_raw pm_least_raw an_least_raw cd_least_raw ct_least_raw), sl_least_raw⟩) (k1_least_raw : PySem.W.codeIn K cd_least_raw "least_raw" = true) (k2_least_raw : PySem.W.keepIn K (.ref f_least_raw) = true)
    (a_digits_from : PySem.W.nsIn K mainGlobals "digits_from" = some (some (.ref f_digits_from))) (l_digits_from : K.lookup f_digits_from = some ⟨oc_digits_from, od_digits_from, .func (PySem.W.fnOf "digits_from" "digits_from" (defArgs s_digits_from) (defBody s_digits_from) (defScope s_digits_from) .none kV_digits_from dc_digits_from pm_digits_from an_digits_from cd_digits_from ct_digits_from), sl_digits_from⟩) (k1_digits_from : PySem.W.codeIn K cd_digits_from "digits_from" = true) (k2_digits_from : PySem.W.keepIn K (.ref f_digits_from) = true)
    (a_number_of : PySem.W.nsIn K mainGlobals "number_of" = some (some (.ref f_number_of))) (l_number_of : K.lookup f_number_of = some ⟨oc_number_of, od_number_of, .func (PySem.W.fnOf "number_of" "number_of" (defArgs s_number_of) (defBody s_number_of) (defScope s_number_of) .none kV_number_of dc_number_of pm_number_of an_number_of cd_number_of ct_number_of), sl_number_of⟩) (k1_number_of : PySem.W.codeIn K cd_number_of "number_of" = true) (k2_number_of : PySem.W.keepIn K (.ref f_number_of) = true)
    (a_power_of_ten : PySem.W.nsIn K mainGlobals "power_of_ten" = some (some (.ref f_power_of_ten))) (l_power_of_ten : K.lookup f_power_of_ten = some ⟨oc_power_of_ten, od_power_of_ten, .func (PySem.W.fnOf "power_of_ten" "power_of_ten" (defArgs s_power_of_ten) (defBody s_power_of_ten) (defScope s_power_of_ten) .none kV_power_of_ten dc_power_of_ten pm_power_of_ten an_power_of_ten cd_power_of_ten ct_power_of_ten), sl_power_of_ten⟩) (k1_power_of_ten : PySem.W.codeIn K cd_power_of_ten "power_of_ten" = true) (k2_power_of_ten : PySem.W.keepIn K (.ref f_power_of_ten) = true)
    (a_stands_here : PySem.W.nsIn K mainGlobals "stands_here" = some (some (.ref f_stands_here))) (l_stands_here : K.lookup f_stands_here = some ⟨oc_stands_here, od_stands_here, .func (PySem.W.fnOf "stands_here" "stands_here" (defArgs s_stands_here) (defBody s_stands_here) (defScope s_stands_here) .none kV_stands_here dc_stands_here pm_stands_here an_stands_here cd_stands_here ct_stands_here), sl_stands_here⟩) (k1_stands_here : PySem.W.codeIn K cd_stands_here "stands_here" = true) (k2_stands_here : PySem.W.keepIn K (.ref f_stands_here) = true)
    (a_passes : PySem.W.nsIn K mainGlobals "passes" = some (some (.ref f_passes))) (l_passes : K.lookup f_passes = some ⟨oc_passes, od_passes, .func (PySem.W.fnOf "passes" "passes" (defArgs s_passes) (defBody s_passes) (defScope s_passes) .none kV_passes dc_passes pm_passes an_passes cd_passes ct_passes), sl_passes⟩) (k1_passes : PySem.W.codeIn K cd_passes "passes" = true) (k2_passes : PySem.W.keepIn K (.ref f_passes) = true)
    (a_passes_before_digit : PySem.W.nsIn K mainGlobals "passes_before_digit" = some (some (.ref f_passes_before_digit))) (l_passes_before_digit : K.lookup f_passes_before_digit = some ⟨oc_passes_before_digit, od_passes_before_digit, .func (PySem.W.fnOf "passes_before_digit" "passes_before_digit" (defArgs s_passes_before_digit) (defBody s_passes_before_digit) (defScope s_passes_before_digit) .none kV_passes_before_digit dc_passes_before_digit pm_passes_before_digit an_passes_before_digit cd_passes_before_digit ct_passes_before_digit), sl_passes_before_digit⟩) (k1_passes_before_digit : PySem.W.codeIn K cd_passes_before_digit "passes_before_digit" = true) (k2_passes_before_digit : PySem.W.keepIn K (.ref f_passes_before_digit) = true)
    (a_read_digits : PySem.W.nsIn K mainGlobals "read_digits" = some (some (.ref f_read_digits))) (l_read_digits : K.lookup f_read_digits = some ⟨oc_read_digits, od_read_digits, .func (PySem.W.fnOf "read_digits" "read_digits" (defArgs s_read_digits) (defBody s_read_digits) (defScope s_read_digits) .none kV_read_digits dc_read_digits pm_read_digits an_read_digits cd_read_digits ct_read_digits), sl_read_digits⟩) (k1_read_digits : PySem.W.codeIn K cd_read_digits "read_digits" = true) (k2_read_digits : PySem.W.keepIn K (.ref f_read_digits) = true)
    (a_read_divisor : PySem.W.nsIn K mainGlobals "read_divisor" = some (some (.ref f_read_divisor))) (l_read_divisor : K.lookup f_read_divisor = some ⟨oc_read_divisor, od_read_divisor, .func (PySem.W.fnOf "read_divisor" "read_divisor" (defArgs s_read_divisor) (defBody s_read_divisor) (defScope s_read_divisor) .none kV_read_divisor dc_read_divisor pm_read_divisor an_read_divisor cd_read_divisor ct_read_divisor), sl_read_divisor⟩) (k1_read_divisor : PySem.W.codeIn K cd_read_divisor "read_divisor" = true) (k2_read_divisor : PySem.W.keepIn K (.ref f_read_divisor) = true)
    (a_read_exponent : PySem.W.nsIn K mainGlobals "read_exponent" = some (some (.ref f_read_exponent))) (l_read_exponent : K.lookup f_read_exponent = some ⟨oc_read_exponent, od_read_exponent, .func (PySem.W.fnOf "read_exponent" "read_exponent" (defArgs s_read_exponent) (defBody s_read_exponent) (defScope s_read_exponent) .none kV_read_exponent dc_read_exponent pm_read_exponent an_read_exponent cd_read_exponent ct_read_exponent), sl_read_exponent⟩) (k1_read_exponent : PySem.W.codeIn K cd_read_exponent "read_exponent" = true) (k2_read_exponent : PySem.W.keepIn K (.ref f_read_exponent) = true)
    (a_times_ten_to : PySem.W.nsIn K mainGlobals "times_ten_to" = some (some (.ref f_times_ten_to))) (l_times_ten_to : K.lookup f_times_ten_to = some ⟨oc_times_ten_to, od_times_ten_to, .func (PySem.W.fnOf "times_ten_to" "times_ten_to" (defArgs s_times_ten_to) (defBody s_times_ten_to) (defScope s_times_ten_to) .none kV_times_ten_to dc_times_ten_to pm_times_ten_to an_times_ten_to cd_times_ten_to ct_times_ten_to), sl_times_ten_to⟩) (k1_times_ten_to : PySem.W.codeIn K cd_times_ten_to "times_ten_to" = true) (k2_times_ten_to : PySem.W.keepIn K (.ref f_times_ten_to) = true)
    (a_read_size : PySem.W.nsIn K mainGlobals "read_size" = some (some (.ref f_read_size))) (l_read_size : K.lookup f_read_size = some ⟨oc_read_size, od_read_size, .func (PySem.W.fnOf "read_size" "read_size" (defArgs s_read_size) (defBody s_read_size) (defScope s_read_size) .none kV_read_size dc_read_size pm_read_size an_read_size cd_read_size ct_read_size), sl_read_size⟩) (k1_read_size : PySem.W.codeIn K cd_read_size "read_size" = true) (k2_read_size : PySem.W.keepIn K (.ref f_read_size) = true)
    (a_read_number : PySem.W.nsIn K mainGlobals "read_number" = some (some (.ref f_read_number))) (l_read_number : K.lookup f_read_number = some ⟨oc_read_number, od_read_number, .func (PySem.W.fnOf "read_number" "read_number" (defArgs s_read_number) (defBody s_read_number) (defScope s_read_number) .none kV_read_number dc_read_number pm_read_number an_read_number cd_read_number ct_read_number), sl_read_number⟩) (k1_read_number : PySem.W.codeIn K cd_read_number "read_number" = true) (k2_read_number : PySem.W.keepIn K (.ref f_read_number) = true)
    (a_steps_of : PySem.W.nsIn K mainGlobals "steps_of" = some (some (.ref f_steps_of))) (l_steps_of : K.lookup f_steps_of = some ⟨oc_steps_of, od_steps_of, .func (PySem.W.fnOf "steps_of" "steps_of" (defArgs s_steps_of) (defBody s_steps_of) (defScope s_steps_of) .none kV_steps_of dc_steps_of pm_steps_of an_steps_of cd_steps_of ct_steps_of), sl_steps_of⟩) (k1_steps_of : PySem.W.codeIn K cd_steps_of "steps_of" = true) (k2_steps_of : PySem.W.keepIn K (.ref f_steps_of) = true)
    (a_is_mode : PySem.W.nsIn K mainGlobals "is_mode" = some (some (.ref f_is_mode))) (l_is_mode : K.lookup f_is_mode = some ⟨oc_is_mode, od_is_mode, .func (PySem.W.fnOf "is_mode" "is_mode" (defArgs s_is_mode) (defBody s_is_mode) (defScope s_is_mode) .none kV_is_mode dc_is_mode pm_is_mode an_is_mode cd_is_mode ct_is_mode), sl_is_mode⟩) (k1_is_mode : PySem.W.codeIn K cd_is_mode "is_mode" = true) (k2_is_mode : PySem.W.keepIn K (.ref f_is_mode) = true)
    (a_in_steps : PySem.W.nsIn K mainGlobals "in_steps" = some (some (.ref f_in_steps))) (l_in_steps : K.lookup f_in_steps = some ⟨oc_in_steps, od_in_steps, .func (PySem.W.fnOf "in_steps" "in_steps" (defArgs s_in_steps) (defBody s_in_steps) (defScope s_in_steps) .none kV_in_steps dc_in_steps pm_in_steps an_in_steps cd_in_steps ct_in_steps), sl_in_steps⟩) (k1_in_steps : PySem.W.codeIn K cd_in_steps "in_steps" = true) (k2_in_steps : PySem.W.keepIn K (.ref f_in_steps) = true)
    (a_leading_place : PySem.W.nsIn K mainGlobals "leading_place" = some (some (.ref f_leading_place))) (l_leading_place : K.lookup f_leading_place = some ⟨oc_leading_place, od_leading_place, .func (PySem.W.fnOf "leading_place" "leading_place" (defArgs s_leading_place) (defBody s_leading_place) (defScope s_leading_place) .none kV_leading_place dc_leading_place pm_leading_place an_leading_place cd_leading_place ct_leading_place), sl_leading_place⟩) (k1_leading_place : PySem.W.codeIn K cd_leading_place "leading_place" = true) (k2_leading_place : PySem.W.keepIn K (.ref f_leading_place) = true)
    (a_quarters : PySem.W.nsIn K mainGlobals "quarters" = some (some (.ref f_quarters))) (l_quarters : K.lookup f_quarters = some ⟨oc_quarters, od_quarters, .func (PySem.W.fnOf "quarters" "quarters" (defArgs s_quarters) (defBody s_quarters) (defScope s_quarters) .none kV_quarters dc_quarters pm_quarters an_quarters cd_quarters ct_quarters), sl_quarters⟩) (k1_quarters : PySem.W.codeIn K cd_quarters "quarters" = true) (k2_quarters : PySem.W.keepIn K (.ref f_quarters) = true)
    (a_is_whole : PySem.W.nsIn K mainGlobals "is_whole" = some (some (.ref f_is_whole))) (l_is_whole : K.lookup f_is_whole = some ⟨oc_is_whole, od_is_whole, .func (PySem.W.fnOf "is_whole" "is_whole" (defArgs s_is_whole) (defBody s_is_whole) (defScope s_is_whole) .none kV_is_whole dc_is_whole pm_is_whole an_is_whole cd_is_whole ct_is_whole), sl_is_whole⟩) (k1_is_whole : PySem.W.codeIn K cd_is_whole "is_whole" = true) (k2_is_whole : PySem.W.keepIn K (.ref f_is_whole) = true)
    (a_goes_far : PySem.W.nsIn K mainGlobals "goes_far" = some (some (.ref f_goes_far))) (l_goes_far : K.lookup f_goes_far = some ⟨oc_goes_far, od_goes_far, .func (PySem.W.fnOf "goes_far" "goes_far" (defArgs s_goes_far) (defBody s_goes_far) (defScope s_goes_far) .none kV_goes_far dc_goes_far pm_goes_far an_goes_far cd_goes_far ct_goes_far), sl_goes_far⟩) (k1_goes_far : PySem.W.codeIn K cd_goes_far "goes_far" = true) (k2_goes_far : PySem.W.keepIn K (.ref f_goes_far) = true)
    (a_rounded : PySem.W.nsIn K mainGlobals "rounded" = some (some (.ref f_rounded))) (l_rounded : K.lookup f_rounded = some ⟨oc_rounded, od_rounded, .func (PySem.W.fnOf "rounded" "rounded" (defArgs s_rounded) (defBody s_rounded) (defScope s_rounded) .none kV_rounded dc_rounded pm_rounded an_rounded cd_rounded ct_rounded), sl_rounded⟩) (k1_rounded : PySem.W.codeIn K cd_rounded "rounded" = true) (k2_rounded : PySem.W.keepIn K (.ref f_rounded) = true)
    (a_mode_of : PySem.W.nsIn K mainGlobals "mode_of" = some (some (.ref f_mode_of))) (l_mode_of : K.lookup f_mode_of = some ⟨oc_mode_of, od_mode_of, .func (PySem.W.fnOf "mode_of" "mode_of" (defArgs s_mode_of) (defBody s_mode_of) (defScope s_mode_of) .none kV_mode_of dc_mode_of pm_mode_of an_mode_of cd_mode_of ct_mode_of), sl_mode_of⟩) (k1_mode_of : PySem.W.codeIn K cd_mode_of "mode_of" = true) (k2_mode_of : PySem.W.keepIn K (.ref f_mode_of) = true)
    (a_holds : PySem.W.nsIn K mainGlobals "holds" = some (some (.ref f_holds))) (l_holds : K.lookup f_holds = some ⟨oc_holds, od_holds, .func (PySem.W.fnOf "holds" "holds" (defArgs s_holds) (defBody s_holds) (defScope s_holds) .none kV_holds dc_holds pm_holds an_holds cd_holds ct_holds), sl_holds⟩) (k1_holds : PySem.W.codeIn K cd_holds "holds" = true) (k2_holds : PySem.W.keepIn K (.ref f_holds) = true)
    (a_may_put : PySem.W.nsIn K mainGlobals "may_put" = some (some (.ref f_may_put))) (l_may_put : K.lookup f_may_put = some ⟨oc_may_put, od_may_put, .func (PySem.W.fnOf "may_put" "may_put" (defArgs s_may_put) (defBody s_may_put) (defScope s_may_put) .none kV_may_put dc_may_put pm_may_put an_may_put cd_may_put ct_may_put), sl_may_put⟩) (k1_may_put : PySem.W.codeIn K cd_may_put "may_put" = true) (k2_may_put : PySem.W.keepIn K (.ref f_may_put) = true)
    (a_end_raw : PySem.W.nsIn K mainGlobals "end_raw" = some (some (.ref f_end_raw))) (l_end_raw : K.lookup f_end_raw = some ⟨oc_end_raw, od_end_raw, .func (PySem.W.fnOf "end_raw" "end_raw" (defArgs s_end_raw) (defBody s_end_raw) (defScope s_end_raw) .none kV_end_raw dc_end_raw pm_end_raw an_end_raw cd_end_raw ct_end_raw), sl_end_raw⟩) (k1_end_raw : PySem.W.codeIn K cd_end_raw "end_raw" = true) (k2_end_raw : PySem.W.keepIn K (.ref f_end_raw) = true)
    (a_put_ratio : PySem.W.nsIn K mainGlobals "put_ratio" = some (some (.ref f_put_ratio))) (l_put_ratio : K.lookup f_put_ratio = some ⟨oc_put_ratio, od_put_ratio, .func (PySem.W.fnOf "put_ratio" "put_ratio" (defArgs s_put_ratio) (defBody s_put_ratio) (defScope s_put_ratio) .none kV_put_ratio dc_put_ratio pm_put_ratio an_put_ratio cd_put_ratio ct_put_ratio), sl_put_ratio⟩) (k1_put_ratio : PySem.W.codeIn K cd_put_ratio "put_ratio" = true) (k2_put_ratio : PySem.W.keepIn K (.ref f_put_ratio) = true)
    (a_put_fixed : PySem.W.nsIn K mainGlobals "put_fixed" = some (some (.ref f_put_fixed))) (l_put_fixed : K.lookup f_put_fixed = some ⟨oc_put_fixed, od_put_fixed, .func (PySem.W.fnOf "put_fixed" "put_fixed" (defArgs s_put_fixed) (defBody s_put_fixed) (defScope s_put_fixed) .none kV_put_fixed dc_put_fixed pm_put_fixed an_put_fixed cd_put_fixed ct_put_fixed), sl_put_fixed⟩) (k1_put_fixed : PySem.W.codeIn K cd_put_fixed "put_fixed" = true) (k2_put_fixed : PySem.W.keepIn K (.ref f_put_fixed) = true)
    (a_put_float : PySem.W.nsIn K mainGlobals "put_float" = some (some (.ref f_put_float))) (l_put_float : K.lookup f_put_float = some ⟨oc_put_float, od_put_float, .func (PySem.W.fnOf "put_float" "put_float" (defArgs s_put_float) (defBody s_put_float) (defScope s_put_float) .none kV_put_float dc_put_float pm_put_float an_put_float cd_put_float ct_put_float), sl_put_float⟩) (k1_put_float : PySem.W.codeIn K cd_put_float "put_float" = true) (k2_put_float : PySem.W.keepIn K (.ref f_put_float) = true)
    (a_read : PySem.W.nsIn K mainGlobals "read" = some (some (.ref f_read))) (l_read : K.lookup f_read = some ⟨oc_read, od_read, .func (PySem.W.fnOf "read" "read" (defArgs s_read) (defBody s_read) (defScope s_read) .none kV_read dc_read pm_read an_read cd_read ct_read), sl_read⟩) (k1_read : PySem.W.codeIn K cd_read "read" = true) (k2_read : PySem.W.keepIn K (.ref f_read) = true)
    (ac_Ratio : PySem.W.nsIn K mainGlobals "Ratio" = some (some (.ref a_Ratio))) (a_Ratio_init : PySem.W.findIn K (.ref a_Ratio) "__init__" = some (some (.ref f_Ratio_init))) (n_Ratio_init : PySem.W.isFn K (.ref f_Ratio_init) = true) (l_Ratio_init : K.lookup f_Ratio_init = some ⟨oc_Ratio_init, od_Ratio_init, .func (PySem.W.fnOf "__init__" "Ratio.__init__" (defArgs s_Ratio_init) (defBody s_Ratio_init) (defScope s_Ratio_init) .none kV_Ratio_init dc_Ratio_init pm_Ratio_init an_Ratio_init cd_Ratio_init ct_Ratio_init), sl_Ratio_init⟩) (k1_Ratio_init : PySem.W.codeIn K cd_Ratio_init "Ratio.__init__" = true) (k2_Ratio_init : PySem.W.keepIn K (.ref f_Ratio_init) = true) (pg_Ratio : PySem.W.plainGet K a_Ratio Str.empty = true) (hd_Ratio : PySem.W.hasDictIn K a_Ratio = true) (po_Ratio : PySem.W.plainOver K a_Ratio = true) (sa_Ratio : PySem.W.findIn K (.ref a_Ratio) "__setattr__" = some (some (.builtin "object.__setattr__"))) (mk_Ratio : PySem.W.makesIn K a_Ratio = true) (kc_Ratio : PySem.W.keepIn K (.ref a_Ratio) = true)
    (na_Ratio_top : PySem.W.findIn K (.ref a_Ratio) "top" = some none)
    (na_Ratio_bottom : PySem.W.findIn K (.ref a_Ratio) "bottom" = some none)
    (ac_NoNumber : PySem.W.nsIn K mainGlobals "NoNumber" = some (some (.ref a_NoNumber))) (xl_NoNumber : K.lookup a_NoNumber = some (excClassObj nm_NoNumber q_NoNumber a_NoNumber N_NoNumber bs_NoNumber bmV true sn_NoNumber sub_NoNumber ab_NoNumber col_NoNumber dd_NoNumber v0_NoNumber v1_NoNumber v2_NoNumber v3_NoNumber v5_NoNumber "ValueError.__new__")) (xn_NoNumber : K.lookup N_NoNumber = some oN_NoNumber) (i_x_NoNumber : strKeysB oN_NoNumber = true) (a_NoNumber_init : PySem.W.nsIn K N_NoNumber "__init__" = some (some (.ref f_NoNumber_init))) (n_NoNumber_init : PySem.W.isFn K (.ref f_NoNumber_init) = true) (l_NoNumber_init : K.lookup f_NoNumber_init = some ⟨oc_NoNumber_init, od_NoNumber_init, .func (PySem.W.fnOf "__init__" "NoNumber.__init__" (defArgs s_NoNumber_init) (defBody s_NoNumber_init) (defScope s_NoNumber_init) .none kV_NoNumber_init dc_NoNumber_init pm_NoNumber_init an_NoNumber_init cd_NoNumber_init ct_NoNumber_init), sl_NoNumber_init⟩) (k1_NoNumber_init : PySem.W.codeIn K cd_NoNumber_init "NoNumber.__init__" = true) (k2_NoNumber_init : PySem.W.keepIn K (.ref f_NoNumber_init) = true) (kc_NoNumber : PySem.W.keepIn K (.ref a_NoNumber) = true) (sa_NoNumber : PySem.W.findIn K (.ref a_NoNumber) "__setattr__" = some (some (.builtin "object.__setattr__"))) (ga_NoNumber : PySem.W.findIn K (.ref a_NoNumber) "__getattribute__" = some (some (.builtin "BaseException.__getattribute__"))) (gh_NoNumber : PySem.W.findIn K (.ref a_NoNumber) "__getattr__" = some none)
    (na_NoNumber_place : PySem.W.findIn K (.ref a_NoNumber) "place" = some none)
    (ac_Scan : PySem.W.nsIn K mainGlobals "Scan" = some (some (.ref a_Scan))) (a_Scan_init : PySem.W.findIn K (.ref a_Scan) "__init__" = some (some (.ref f_Scan_init))) (n_Scan_init : PySem.W.isFn K (.ref f_Scan_init) = true) (l_Scan_init : K.lookup f_Scan_init = some ⟨oc_Scan_init, od_Scan_init, .func (PySem.W.fnOf "__init__" "Scan.__init__" (defArgs s_Scan_init) (defBody s_Scan_init) (defScope s_Scan_init) .none kV_Scan_init dc_Scan_init pm_Scan_init an_Scan_init cd_Scan_init ct_Scan_init), sl_Scan_init⟩) (k1_Scan_init : PySem.W.codeIn K cd_Scan_init "Scan.__init__" = true) (k2_Scan_init : PySem.W.keepIn K (.ref f_Scan_init) = true) (pg_Scan : PySem.W.plainGet K a_Scan Str.empty = true) (hd_Scan : PySem.W.hasDictIn K a_Scan = true) (po_Scan : PySem.W.plainOver K a_Scan = true) (sa_Scan : PySem.W.findIn K (.ref a_Scan) "__setattr__" = some (some (.builtin "object.__setattr__"))) (mk_Scan : PySem.W.makesIn K a_Scan = true) (kc_Scan : PySem.W.keepIn K (.ref a_Scan) = true)
    (na_Scan_text : PySem.W.findIn K (.ref a_Scan) "text" = some none)
    (na_Scan_place : PySem.W.findIn K (.ref a_Scan) "place" = some none)
    (na_Scan_room : PySem.W.findIn K (.ref a_Scan) "room" = some none)
    (g_TRUTH : PySem.W.nsIn K mainGlobals "TRUTH" = some (some (.int (0) tk_TRUTH)))
    (g_SIGNED : PySem.W.nsIn K mainGlobals "SIGNED" = some (some (.int (1) tk_SIGNED)))
    (g_UNSIGNED : PySem.W.nsIn K mainGlobals "UNSIGNED" = some (some (.int (2) tk_UNSIGNED)))
    (g_FLOAT : PySem.W.nsIn K mainGlobals "FLOAT" = some (some (.int (3) tk_FLOAT)))
    (g_T : PySem.W.nsIn K mainGlobals "T" = some (some (.int (2048) tk_T)))
    (g_F32 : PySem.W.nsIn K mainGlobals "F32" = some (some (.int (204800) tk_F32)))
    (g_F64 : PySem.W.nsIn K mainGlobals "F64" = some (some (.int (212992) tk_F64)))
    (g_WIDTHS : PySem.W.nsIn K mainGlobals "WIDTHS" = some (some (.ref a_WIDTHS))) (h_WIDTHS : K.lookup a_WIDTHS = some o_WIDTHS) (i_WIDTHS : seqTC o_WIDTHS [.int (8), .int (16), .int (32), .int (64)] = true)
    (g_FRACTION_BITS : PySem.W.nsIn K mainGlobals "FRACTION_BITS" = some (some (.ref a_FRACTION_BITS))) (h_FRACTION_BITS : K.lookup a_FRACTION_BITS = some o_FRACTION_BITS) (i_FRACTION_BITS : dictC o_FRACTION_BITS [(32, .int (23)), (64, .int (52))] = true)
    (g_LOWEST_PLACES : PySem.W.nsIn K mainGlobals "LOWEST_PLACES" = some (some (.ref a_LOWEST_PLACES))) (h_LOWEST_PLACES : K.lookup a_LOWEST_PLACES = some o_LOWEST_PLACES) (i_LOWEST_PLACES : dictC o_LOWEST_PLACES [(32, .int (149)), (64, .int (1074))] = true)
    (g_NOUGHT : PySem.W.nsIn K mainGlobals "NOUGHT" = some (some (.int (48) tk_NOUGHT)))
    (g_MOST_DIGITS : PySem.W.nsIn K mainGlobals "MOST_DIGITS" = some (some (.int (40) tk_MOST_DIGITS)))
    (g_MOST_EXPONENT_DIGITS : PySem.W.nsIn K mainGlobals "MOST_EXPONENT_DIGITS" = some (some (.int (3) tk_MOST_EXPONENT_DIGITS)))
    (g_MINUS : PySem.W.nsIn K mainGlobals "MINUS" = some (some (.int (45) tk_MINUS)))
    (g_POINT : PySem.W.nsIn K mainGlobals "POINT" = some (some (.int (46) tk_POINT)))
    (g_SLASH : PySem.W.nsIn K mainGlobals "SLASH" = some (some (.int (47) tk_SLASH)))
    (g_LETTER_E : PySem.W.nsIn K mainGlobals "LETTER_E" = some (some (.int (101) tk_LETTER_E)))
    (g_INEXACT : PySem.W.nsIn K mainGlobals "INEXACT" = some (some (.int (1) tk_INEXACT)))
    (g_HELD : PySem.W.nsIn K mainGlobals "HELD" = some (some (.int (4) tk_HELD)))
    (g_NEAREST_EVEN : PySem.W.nsIn K mainGlobals "NEAREST_EVEN" = some (some (.int (0) tk_NEAREST_EVEN)))
    (g_TOWARD_NOUGHT : PySem.W.nsIn K mainGlobals "TOWARD_NOUGHT" = some (some (.int (1) tk_TOWARD_NOUGHT)))
    (g_UP : PySem.W.nsIn K mainGlobals "UP" = some (some (.int (2) tk_UP)))
    (g_DOWN : PySem.W.nsIn K mainGlobals "DOWN" = some (some (.int (3) tk_DOWN)))
    (g_NEAREST_FAR : PySem.W.nsIn K mainGlobals "NEAREST_FAR" = some (some (.int (4) tk_NEAREST_FAR)))
    (g_WRONG_ARGUMENT : PySem.W.nsIn K mainGlobals "WRONG_ARGUMENT" = some (some (.int (-1) tk_WRONG_ARGUMENT)))
    (g_NO_SUCH_TEXT : PySem.W.nsIn K mainGlobals "NO_SUCH_TEXT" = some (some (.int (-6) tk_NO_SUCH_TEXT)))
    (g_MOST_BYTES : PySem.W.nsIn K mainGlobals "MOST_BYTES" = some (some (.int (64) tk_MOST_BYTES)))
    (n_abs : PySem.W.nsIn K mainGlobals "abs" = some none)
    (n_len : PySem.W.nsIn K mainGlobals "len" = some none)
    (n_max : PySem.W.nsIn K mainGlobals "max" = some none) : Txt K mg :=
  { f_kind_of := f_kind_of, fd_kind_of := _, F_kind_of := fun_mk l_kind_of k1_kind_of k2_kind_of, m_kind_of := PySem.W.mg_of X G a_kind_of,
    f_width_of := f_width_of, fd_width_of := _, F_width_of := fun_mk l_width_of k1_width_of k2_width_of, m_width_of := PySem.W.mg_of X G a_width_of,
    f_point_of := f_point_of, fd_point_of := _, F_point_of := fun_mk l_point_of k1_point_of k2_point_of, m_point_of := PySem.W.mg_of X G a_point_of,
    f_is_format := f_is_format, fd_is_format := _, F_is_format := fun_mk l_is_format k1_is_format k2_is_format, m_is_format := PySem.W.mg_of X G a_is_format,
    f_sign_bit := f_sign_bit, fd_sign_bit := _, F_sign_bit := fun_mk l_sign_bit k1_sign_bit k2_sign_bit, m_sign_bit := PySem.W.mg_of X G a_sign_bit,
    f_infinity_raw := f_infinity_raw, fd_infinity_raw := _, F_infinity_raw := fun_mk l_infinity_raw k1_infinity_raw k2_infinity_raw, m_infinity_raw := PySem.W.mg_of X G a_infinity_raw,
    f_greatest_raw := f_greatest_raw, fd_greatest_raw := _, F_greatest_raw := fun_mk l_greatest_raw k1_greatest_raw k2_greatest_raw, m_greatest_raw := PySem.W.mg_of X G a_greatest_raw,
    f_least_raw := f_least_raw, fd_least_raw := _, F_least_raw := fun_mk l_least_raw k1_least_raw k2_least_raw, m_least_raw := PySem.W.mg_of X G a_least_raw,
    f_digits_from := f_digits_from, fd_digits_from := _, F_digits_from := fun_mk l_digits_from k1_digits_from k2_digits_from, m_digits_from := PySem.W.mg_of X G a_digits_from,
    f_number_of := f_number_of, fd_number_of := _, F_number_of := fun_mk l_number_of k1_number_of k2_number_of, m_number_of := PySem.W.mg_of X G a_number_of,
    f_power_of_ten := f_power_of_ten, fd_power_of_ten := _, F_power_of_ten := fun_mk l_power_of_ten k1_power_of_ten k2_power_of_ten, m_power_of_ten := PySem.W.mg_of X G a_power_of_ten,
    f_stands_here := f_stands_here, fd_stands_here := _, F_stands_here := fun_mk l_stands_here k1_stands_here k2_stands_here, m_stands_here := PySem.W.mg_of X G a_stands_here,
    f_passes := f_passes, fd_passes := _, F_passes := fun_mk l_passes k1_passes k2_passes, m_passes := PySem.W.mg_of X G a_passes,
    f_passes_before_digit := f_passes_before_digit, fd_passes_before_digit := _, F_passes_before_digit := fun_mk l_passes_before_digit k1_passes_before_digit k2_passes_before_digit, m_passes_before_digit := PySem.W.mg_of X G a_passes_before_digit,
    f_read_digits := f_read_digits, fd_read_digits := _, F_read_digits := fun_mk l_read_digits k1_read_digits k2_read_digits, m_read_digits := PySem.W.mg_of X G a_read_digits,
    f_read_divisor := f_read_divisor, fd_read_divisor := _, F_read_divisor := fun_mk l_read_divisor k1_read_divisor k2_read_divisor, m_read_divisor := PySem.W.mg_of X G a_read_divisor,
    f_read_exponent := f_read_exponent, fd_read_exponent := _, F_read_exponent := fun_mk l_read_exponent k1_read_exponent k2_read_exponent, m_read_exponent := PySem.W.mg_of X G a_read_exponent,
    f_times_ten_to := f_times_ten_to, fd_times_ten_to := _, F_times_ten_to := fun_mk l_times_ten_to k1_times_ten_to k2_times_ten_to, m_times_ten_to := PySem.W.mg_of X G a_times_ten_to,
    f_read_size := f_read_size, fd_read_size := _, F_read_size := fun_mk l_read_size k1_read_size k2_read_size, m_read_size := PySem.W.mg_of X G a_read_size,
    f_read_number := f_read_number, fd_read_number := _, F_read_number := fun_mk l_read_number k1_read_number k2_read_number, m_read_number := PySem.W.mg_of X G a_read_number,
    f_steps_of := f_steps_of, fd_steps_of := _, F_steps_of := fun_mk l_steps_of k1_steps_of k2_steps_of, m_steps_of := PySem.W.mg_of X G a_steps_of,
    f_is_mode := f_is_mode, fd_is_mode := _, F_is_mode := fun_mk l_is_mode k1_is_mode k2_is_mode, m_is_mode := PySem.W.mg_of X G a_is_mode,
    f_in_steps := f_in_steps, fd_in_steps := _, F_in_steps := fun_mk l_in_steps k1_in_steps k2_in_steps, m_in_steps := PySem.W.mg_of X G a_in_steps,
    f_leading_place := f_leading_place, fd_leading_place := _, F_leading_place := fun_mk l_leading_place k1_leading_place k2_leading_place, m_leading_place := PySem.W.mg_of X G a_leading_place,
    f_quarters := f_quarters, fd_quarters := _, F_quarters := fun_mk l_quarters k1_quarters k2_quarters, m_quarters := PySem.W.mg_of X G a_quarters,
    f_is_whole := f_is_whole, fd_is_whole := _, F_is_whole := fun_mk l_is_whole k1_is_whole k2_is_whole, m_is_whole := PySem.W.mg_of X G a_is_whole,
    f_goes_far := f_goes_far, fd_goes_far := _, F_goes_far := fun_mk l_goes_far k1_goes_far k2_goes_far, m_goes_far := PySem.W.mg_of X G a_goes_far,
    f_rounded := f_rounded, fd_rounded := _, F_rounded := fun_mk l_rounded k1_rounded k2_rounded, m_rounded := PySem.W.mg_of X G a_rounded,
    f_mode_of := f_mode_of, fd_mode_of := _, F_mode_of := fun_mk l_mode_of k1_mode_of k2_mode_of, m_mode_of := PySem.W.mg_of X G a_mode_of,
    f_holds := f_holds, fd_holds := _, F_holds := fun_mk l_holds k1_holds k2_holds, m_holds := PySem.W.mg_of X G a_holds,
    f_may_put := f_may_put, fd_may_put := _, F_may_put := fun_mk l_may_put k1_may_put k2_may_put, m_may_put := PySem.W.mg_of X G a_may_put,
    f_end_raw := f_end_raw, fd_end_raw := _, F_end_raw := fun_mk l_end_raw k1_end_raw k2_end_raw, m_end_raw := PySem.W.mg_of X G a_end_raw,
    f_put_ratio := f_put_ratio, fd_put_ratio := _, F_put_ratio := fun_mk l_put_ratio k1_put_ratio k2_put_ratio, m_put_ratio := PySem.W.mg_of X G a_put_ratio,
    f_put_fixed := f_put_fixed, fd_put_fixed := _, F_put_fixed := fun_mk l_put_fixed k1_put_fixed k2_put_fixed, m_put_fixed := PySem.W.mg_of X G a_put_fixed,
    f_put_float := f_put_float, fd_put_float := _, F_put_float := fun_mk l_put_float k1_put_float k2_put_float, m_put_float := PySem.W.mg_of X G a_put_float,
    f_read := f_read, fd_read := _, F_read := fun_mk l_read k1_read k2_read, m_read := PySem.W.mg_of X G a_read,
    a_Ratio := a_Ratio, f_Ratio_init := f_Ratio_init, fd_Ratio_init := _, F_Ratio_init := fun_mk l_Ratio_init k1_Ratio_init k2_Ratio_init, m_Ratio := PySem.W.mg_of X G ac_Ratio, cl_Ratio := ⟨pg_Ratio, hd_Ratio, po_Ratio, sa_Ratio⟩, mk_Ratio := ⟨mk_Ratio, a_Ratio_init, n_Ratio_init, kc_Ratio⟩,
    na_Ratio_top := na_Ratio_top,
    na_Ratio_bottom := na_Ratio_bottom,
    a_NoNumber := a_NoNumber, f_NoNumber_init := f_NoNumber_init, fd_NoNumber_init := _, F_NoNumber_init := fun_mk l_NoNumber_init k1_NoNumber_init k2_NoNumber_init, m_NoNumber := PySem.W.mg_of X G ac_NoNumber, xc_NoNumber := ⟨⟨_, _, _, _, _, _, _, _, _, _, _, _, _, _, _, xl_NoNumber, xn_NoNumber, i_x_NoNumber, a_NoNumber_init⟩, n_NoNumber_init, kc_NoNumber, sa_NoNumber, ga_NoNumber, gh_NoNumber⟩,
    na_NoNumber_place := na_NoNumber_place,
    a_Scan := a_Scan, f_Scan_init := f_Scan_init, fd_Scan_init := _, F_Scan_init := fun_mk l_Scan_init k1_Scan_init k2_Scan_init, m_Scan := PySem.W.mg_of X G ac_Scan, cl_Scan := ⟨pg_Scan, hd_Scan, po_Scan, sa_Scan⟩, mk_Scan := ⟨mk_Scan, a_Scan_init, n_Scan_init, kc_Scan⟩,
    na_Scan_text := na_Scan_text,
    na_Scan_place := na_Scan_place,
    na_Scan_room := na_Scan_room,
    c_TRUTH := ⟨_, PySem.W.mg_of X G g_TRUTH, ⟨_, rfl⟩⟩,
    c_SIGNED := ⟨_, PySem.W.mg_of X G g_SIGNED, ⟨_, rfl⟩⟩,
    c_UNSIGNED := ⟨_, PySem.W.mg_of X G g_UNSIGNED, ⟨_, rfl⟩⟩,
    c_FLOAT := ⟨_, PySem.W.mg_of X G g_FLOAT, ⟨_, rfl⟩⟩,
    c_T := ⟨_, PySem.W.mg_of X G g_T, ⟨_, rfl⟩⟩,
    c_F32 := ⟨_, PySem.W.mg_of X G g_F32, ⟨_, rfl⟩⟩,
    c_F64 := ⟨_, PySem.W.mg_of X G g_F64, ⟨_, rfl⟩⟩,
    a_WIDTHS := a_WIDTHS, c_WIDTHS := ⟨_, PySem.W.mg_of X G g_WIDTHS, rfl⟩, q_WIDTHS := fun H => seqT_of h_WIDTHS i_WIDTHS,
    a_FRACTION_BITS := a_FRACTION_BITS, c_FRACTION_BITS := ⟨_, PySem.W.mg_of X G g_FRACTION_BITS, rfl⟩, q_FRACTION_BITS := dict_of h_FRACTION_BITS i_FRACTION_BITS,
    a_LOWEST_PLACES := a_LOWEST_PLACES, c_LOWEST_PLACES := ⟨_, PySem.W.mg_of X G g_LOWEST_PLACES, rfl⟩, q_LOWEST_PLACES := dict_of h_LOWEST_PLACES i_LOWEST_PLACES,
    c_NOUGHT := ⟨_, PySem.W.mg_of X G g_NOUGHT, ⟨_, rfl⟩⟩,
    c_MOST_DIGITS := ⟨_, PySem.W.mg_of X G g_MOST_DIGITS, ⟨_, rfl⟩⟩,
    c_MOST_EXPONENT_DIGITS := ⟨_, PySem.W.mg_of X G g_MOST_EXPONENT_DIGITS, ⟨_, rfl⟩⟩,
    c_MINUS := ⟨_, PySem.W.mg_of X G g_MINUS, ⟨_, rfl⟩⟩,
    c_POINT := ⟨_, PySem.W.mg_of X G g_POINT, ⟨_, rfl⟩⟩,
    c_SLASH := ⟨_, PySem.W.mg_of X G g_SLASH, ⟨_, rfl⟩⟩,
    c_LETTER_E := ⟨_, PySem.W.mg_of X G g_LETTER_E, ⟨_, rfl⟩⟩,
    c_INEXACT := ⟨_, PySem.W.mg_of X G g_INEXACT, ⟨_, rfl⟩⟩,
    c_HELD := ⟨_, PySem.W.mg_of X G g_HELD, ⟨_, rfl⟩⟩,
    c_NEAREST_EVEN := ⟨_, PySem.W.mg_of X G g_NEAREST_EVEN, ⟨_, rfl⟩⟩,
    c_TOWARD_NOUGHT := ⟨_, PySem.W.mg_of X G g_TOWARD_NOUGHT, ⟨_, rfl⟩⟩,
    c_UP := ⟨_, PySem.W.mg_of X G g_UP, ⟨_, rfl⟩⟩,
    c_DOWN := ⟨_, PySem.W.mg_of X G g_DOWN, ⟨_, rfl⟩⟩,
    c_NEAREST_FAR := ⟨_, PySem.W.mg_of X G g_NEAREST_FAR, ⟨_, rfl⟩⟩,
    c_WRONG_ARGUMENT := ⟨_, PySem.W.mg_of X G g_WRONG_ARGUMENT, ⟨_, rfl⟩⟩,
    c_NO_SUCH_TEXT := ⟨_, PySem.W.mg_of X G g_NO_SUCH_TEXT, ⟨_, rfl⟩⟩,
    c_MOST_BYTES := ⟨_, PySem.W.mg_of X G g_MOST_BYTES, ⟨_, rfl⟩⟩,
    n_abs := PySem.W.mg_none_of X G n_abs,
    n_len := PySem.W.mg_none_of X G n_len,
    n_max := PySem.W.mg_none_of X G n_max }
theorem all_mk {P : Program} {w : World} {fa : Addr} {K : PySem.W.Frag} {h : Heap} {mg : Str → Option Value} (X : K.In h) (G : h.Ns mainGlobals mg)
    {f_kind_of : Addr} {od_kind_of an_kind_of : Option Addr} {sl_kind_of : Array (Option Value)} {oc_kind_of kV_kind_of dc_kind_of pm_kind_of cd_kind_of ct_kind_of : Value}
    {f_width_of : Addr} {od_width_of an_width_of : Option Addr} {sl_width_of : Array (Option Value)} {oc_width_of kV_width_of dc_width_of pm_width_of cd_width_of ct_width_of : Value}
    {f_point_of : Addr} {od_point_of an_point_of : Option Addr} {sl_point_of : Array (Option Value)} {oc_point_of kV_point_of dc_point_of pm_point_of cd_point_of ct_point_of : Value}
    {f_is_format : Addr} {od_is_format an_is_format : Option Addr} {sl_is_format : Array (Option Value)} {oc_is_format kV_is_format dc_is_format pm_is_format cd_is_format ct_is_format : Value}
    {f_sign_bit : Addr} {od_sign_bit an_sign_bit : Option Addr} {sl_sign_bit : Array (Option Value)} {oc_sign_bit kV_sign_bit dc_sign_bit pm_sign_bit cd_sign_bit ct_sign_bit : Value}
    {f_infinity_raw : Addr} {od_infinity_raw an_infinity_raw : Option Addr} {sl_infinity_raw : Array (Option Value)} {oc_infinity_raw kV_infinity_raw dc_infinity_raw pm_infinity_raw cd_infinity_raw ct_infinity_raw : Value}
    {f_greatest_raw : Addr} {od_greatest_raw an_greatest_raw : Option Addr} {sl_greatest_raw : Array (Option Value)} {oc_greatest_raw kV_greatest_raw dc_greatest_raw pm_greatest_raw cd_greatest_raw ct_greatest_raw : Value}
    {f_least_raw : Addr} {od_least_raw an_least_raw : Option Addr} {sl_least_raw : Array (Option Value)} {oc_least_raw kV_least_raw dc_least_raw pm_least_raw cd_least_raw ct_least_raw : Value}
    {f_digits_from : Addr} {od_digits_from an_digits_from : Option Addr} {sl_digits_from : Array (Option Value)} {oc_digits_from kV_digits_from dc_digits_from pm_digits_from cd_digits_from ct_digits_from : Value}
    {f_number_of : Addr} {od_number_of an_number_of : Option Addr} {sl_number_of : Array (Option Value)} {oc_number_of kV_number_of dc_number_of pm_number_of cd_number_of ct_number_of : Value}
    {f_power_of_ten : Addr} {od_power_of_ten an_power_of_ten : Option Addr} {sl_power_of_ten : Array (Option Value)} {oc_power_of_ten kV_power_of_ten dc_power_of_ten pm_power_of_ten cd_power_of_ten ct_power_of_ten : Value}
    {f_stands_here : Addr} {od_stands_here an_stands_here : Option Addr} {sl_stands_here : Array (Option Value)} {oc_stands_here kV_stands_here dc_stands_here pm_stands_here cd_stands_here ct_stands_here : Value}
    {f_passes : Addr} {od_passes an_passes : Option Addr} {sl_passes : Array (Option Value)} {oc_passes kV_passes dc_passes pm_passes cd_passes ct_passes : Value}
    {f_passes_before_digit : Addr} {od_passes_before_digit an_passes_before_digit : Option Addr} {sl_passes_before_digit : Array (Option Value)} {oc_passes_before_digit kV_passes_before_digit dc_passes_before_digit pm_passes_before_digit cd_passes_before_digit ct_passes_before_digit : Value}
    {f_read_digits : Addr} {od_read_digits an_read_digits : Option Addr} {sl_read_digits : Array (Option Value)} {oc_read_digits kV_read_digits dc_read_digits pm_read_digits cd_read_digits ct_read_digits : Value}
    {f_read_divisor : Addr} {od_read_divisor an_read_divisor : Option Addr} {sl_read_divisor : Array (Option Value)} {oc_read_divisor kV_read_divisor dc_read_divisor pm_read_divisor cd_read_divisor ct_read_divisor : Value}
    {f_read_exponent : Addr} {od_read_exponent an_read_exponent : Option Addr} {sl_read_exponent : Array (Option Value)} {oc_read_exponent kV_read_exponent dc_read_exponent pm_read_exponent cd_read_exponent ct_read_exponent : Value}
    {f_times_ten_to : Addr} {od_times_ten_to an_times_ten_to : Option Addr} {sl_times_ten_to : Array (Option Value)} {oc_times_ten_to kV_times_ten_to dc_times_ten_to pm_times_ten_to cd_times_ten_to ct_times_ten_to : Value}
    {f_read_size : Addr} {od_read_size an_read_size : Option Addr} {sl_read_size : Array (Option Value)} {oc_read_size kV_read_size dc_read_size pm_read_size cd_read_size ct_read_size : Value}
    {f_read_number : Addr} {od_read_number an_read_number : Option Addr} {sl_read_number : Array (Option Value)} {oc_read_number kV_read_number dc_read_number pm_read_number cd_read_number ct_read_number : Value}
    {f_steps_of : Addr} {od_steps_of an_steps_of : Option Addr} {sl_steps_of : Array (Option Value)} {oc_steps_of kV_steps_of dc_steps_of pm_steps_of cd_steps_of ct_steps_of : Value}
    {f_is_mode : Addr} {od_is_mode an_is_mode : Option Addr} {sl_is_mode : Array (Option Value)} {oc_is_mode kV_is_mode dc_is_mode pm_is_mode cd_is_mode ct_is_mode : Value}
    {f_in_steps : Addr} {od_in_steps an_in_steps : Option Addr} {sl_in_steps : Array (Option Value)} {oc_in_steps kV_in_steps dc_in_steps pm_in_steps cd_in_steps ct_in_steps : Value}
    {f_leading_place : Addr} {od_leading_place an_leading_place : Option Addr} {sl_leading_place : Array (Option Value)} {oc_leading_place kV_leading_place dc_leading_place pm_leading_place cd_leading_place ct_leading_place : Value}
    {f_quarters : Addr} {od_quarters an_quarters : Option Addr} {sl_quarters : Array (Option Value)} {oc_quarters kV_quarters dc_quarters pm_quarters cd_quarters ct_quarters : Value}
    {f_is_whole : Addr} {od_is_whole an_is_whole : Option Addr} {sl_is_whole : Array (Option Value)} {oc_is_whole kV_is_whole dc_is_whole pm_is_whole cd_is_whole ct_is_whole : Value}
    {f_goes_far : Addr} {od_goes_far an_goes_far : Option Addr} {sl_goes_far : Array (Option Value)} {oc_goes_far kV_goes_far dc_goes_far pm_goes_far cd_goes_far ct_goes_far : Value}
    {f_rounded : Addr} {od_rounded an_rounded : Option Addr} {sl_rounded : Array (Option Value)} {oc_rounded kV_rounded dc_rounded pm_rounded cd_rounded ct_rounded : Value}
    {f_mode_of : Addr} {od_mode_of an_mode_of : Option Addr} {sl_mode_of : Array (Option Value)} {oc_mode_of kV_mode_of dc_mode_of pm_mode_of cd_mode_of ct_mode_of : Value}
    {f_holds : Addr} {od_holds an_holds : Option Addr} {sl_holds : Array (Option Value)} {oc_holds kV_holds dc_holds pm_holds cd_holds ct_holds : Value}
    {f_may_put : Addr} {od_may_put an_may_put : Option Addr} {sl_may_put : Array (Option Value)} {oc_may_put kV_may_put dc_may_put pm_may_put cd_may_put ct_may_put : Value}
    {f_end_raw : Addr} {od_end_raw an_end_raw : Option Addr} {sl_end_raw : Array (Option Value)} {oc_end_raw kV_end_raw dc_end_raw pm_end_raw cd_end_raw ct_end_raw : Value}
    {f_put_ratio : Addr} {od_put_ratio an_put_ratio : Option Addr} {sl_put_ratio : Array (Option Value)} {oc_put_ratio kV_put_ratio dc_put_ratio pm_put_ratio cd_put_ratio ct_put_ratio : Value}
    {f_put_fixed : Addr} {od_put_fixed an_put_fixed : Option Addr} {sl_put_fixed : Array (Option Value)} {oc_put_fixed kV_put_fixed dc_put_fixed pm_put_fixed cd_put_fixed ct_put_fixed : Value}
    {f_put_float : Addr} {od_put_float an_put_float : Option Addr} {sl_put_float : Array (Option Value)} {oc_put_float kV_put_float dc_put_float pm_put_float cd_put_float ct_put_float : Value}
    {f_read : Addr} {od_read an_read : Option Addr} {sl_read : Array (Option Value)} {oc_read kV_read dc_read pm_read cd_read ct_read : Value}
    {a_Ratio f_Ratio_init : Addr} {od_Ratio_init an_Ratio_init : Option Addr} {sl_Ratio_init : Array (Option Value)} {oc_Ratio_init kV_Ratio_init dc_Ratio_init pm_Ratio_init cd_Ratio_init ct_Ratio_init : Value}
    {a_NoNumber f_NoNumber_init N_NoNumber : Addr} {od_NoNumber_init an_NoNumber_init dd_NoNumber : Option Addr} {sl_NoNumber_init : Array (Option Value)} {oc_NoNumber_init kV_NoNumber_init dc_NoNumber_init pm_NoNumber_init cd_NoNumber_init ct_NoNumber_init : Value} {nm_NoNumber q_NoNumber : Str} {bs_NoNumber sub_NoNumber : List Value} {sn_NoNumber : List Str} {ab_NoNumber : Bool} {col_NoNumber : Option Bool} {v0_NoNumber v1_NoNumber v2_NoNumber v3_NoNumber v5_NoNumber : Option Value} {oN_NoNumber : Obj}
    {a_Scan f_Scan_init : Addr} {od_Scan_init an_Scan_init : Option Addr} {sl_Scan_init : Array (Option Value)} {oc_Scan_init kV_Scan_init dc_Scan_init pm_Scan_init cd_Scan_init ct_Scan_init : Value}
    {tk_TRUTH : Tok}
    {tk_SIGNED : Tok}
    {tk_UNSIGNED : Tok}
    {tk_FLOAT : Tok}
    {tk_T : Tok}
    {tk_F32 : Tok}
    {tk_F64 : Tok}
    {a_WIDTHS : Addr} {o_WIDTHS : Obj}
    {a_FRACTION_BITS : Addr} {o_FRACTION_BITS : Obj}
    {a_LOWEST_PLACES : Addr} {o_LOWEST_PLACES : Obj}
    {tk_NOUGHT : Tok}
    {tk_MOST_DIGITS : Tok}
    {tk_MOST_EXPONENT_DIGITS : Tok}
    {tk_MINUS : Tok}
    {tk_POINT : Tok}
    {tk_SLASH : Tok}
    {tk_LETTER_E : Tok}
    {tk_INEXACT : Tok}
    {tk_HELD : Tok}
    {tk_NEAREST_EVEN : Tok}
    {tk_TOWARD_NOUGHT : Tok}
    {tk_UP : Tok}
    {tk_DOWN : Tok}
    {tk_NEAREST_FAR : Tok}
    {tk_WRONG_ARGUMENT : Tok}
    {tk_NO_SUCH_TEXT : Tok}
    {tk_MOST_BYTES : Tok}
    (a_kind_of : PySem.W.nsIn K mainGlobals "kind_of" = some (some (.ref f_kind_of))) (l_kind_of : K.lookup f_kind_of = some ⟨oc_kind_of, od_kind_of, .func (PySem.W.fnOf "kind_of" "kind_of" (defArgs s_kind_of) (defBody s_kind_of) (defScope s_kind_of) .none kV_kind_of dc_kind_of pm_kind_of an_kind_of cd_kind_of ct_kind_of), sl_kind_of⟩) (k1_kind_of : PySem.W.codeIn K cd_kind_of "kind_of" = true) (k2_kind_of : PySem.W.keepIn K (.ref f_kind_of) = true)
    (a_width_of : PySem.W.nsIn K mainGlobals "width_of" = some (some (.ref f_width_of))) (l_width_of : K.lookup f_width_of = some ⟨oc_width_of, od_width_of, .func (PySem.W.fnOf "width_of" "width_of" (defArgs s_width_of) (defBody s_width_of) (defScope s_width_of) .none kV_width_of dc_width_of pm_width_of an_width_of cd_width_of ct_width_of), sl_width_of⟩) (k1_width_of : PySem.W.codeIn K cd_width_of "width_of" = true) (k2_width_of : PySem.W.keepIn K (.ref f_width_of) = true)
    (a_point_of : PySem.W.nsIn K mainGlobals "point_of" = some (some (.ref f_point_of))) (l_point_of : K.lookup f_point_of = some ⟨oc_point_of, od_point_of, .func (PySem.W.fnOf "point_of" "point_of" (defArgs s_point_of) (defBody s_point_of) (defScope s_point_of) .none kV_point_of dc_point_of pm_point_of an_point_of cd_point_of ct_point_of), sl_point_of⟩) (k1_point_of : PySem.W.codeIn K cd_point_of "point_of" = true) (k2_point_of : PySem.W.keepIn K (.ref f_point_of) = true)
    (a_is_format : PySem.W.nsIn K mainGlobals "is_format" = some (some (.ref f_is_format))) (l_is_format : K.lookup f_is_format = some ⟨oc_is_format, od_is_format, .func (PySem.W.fnOf "is_format" "is_format" (defArgs s_is_format) (defBody s_is_format) (defScope s_is_format) .none kV_is_format dc_is_format pm_is_format an_is_format cd_is_format ct_is_format), sl_is_format⟩) (k1_is_format : PySem.W.codeIn K cd_is_format "is_format" = true) (k2_is_format : PySem.W.keepIn K (.ref f_is_format) = true)
    (a_sign_bit : PySem.W.nsIn K mainGlobals "sign_bit" = some (some (.ref f_sign_bit))) (l_sign_bit : K.lookup f_sign_bit = some ⟨oc_sign_bit, od_sign_bit, .func (PySem.W.fnOf "sign_bit" "sign_bit" (defArgs s_sign_bit) (defBody s_sign_bit) (defScope s_sign_bit) .none kV_sign_bit dc_sign_bit pm_sign_bit an_sign_bit cd_sign_bit ct_sign_bit), sl_sign_bit⟩) (k1_sign_bit : PySem.W.codeIn K cd_sign_bit "sign_bit" = true) (k2_sign_bit : PySem.W.keepIn K (.ref f_sign_bit) = true)
    (a_infinity_raw : PySem.W.nsIn K mainGlobals "infinity_raw" = some (some (.ref f_infinity_raw))) (l_infinity_raw : K.lookup f_infinity_raw = some ⟨oc_infinity_raw, od_infinity_raw, .func (PySem.W.fnOf "infinity_raw" "infinity_raw" (defArgs s_infinity_raw) (defBody s_infinity_raw) (defScope s_infinity_raw) .none kV_infinity_raw dc_infinity_raw pm_infinity_raw an_infinity_raw cd_infinity_raw ct_infinity_raw), sl_infinity_raw⟩) (k1_infinity_raw : PySem.W.codeIn K cd_infinity_raw "infinity_raw" = true) (k2_infinity_raw : PySem.W.keepIn K (.ref f_infinity_raw) = true)
    (a_greatest_raw : PySem.W.nsIn K mainGlobals "greatest_raw" = some (some (.ref f_greatest_raw))) (l_greatest_raw : K.lookup f_greatest_raw = some ⟨oc_greatest_raw, od_greatest_raw, .func (PySem.W.fnOf "greatest_raw" "greatest_raw" (defArgs s_greatest_raw) (defBody s_greatest_raw) (defScope s_greatest_raw) .none kV_greatest_raw dc_greatest_raw pm_greatest_raw an_greatest_raw cd_greatest_raw ct_greatest_raw), sl_greatest_raw⟩) (k1_greatest_raw : PySem.W.codeIn K cd_greatest_raw "greatest_raw" = true) (k2_greatest_raw : PySem.W.keepIn K (.ref f_greatest_raw) = true)
    (a_least_raw : PySem.W.nsIn K mainGlobals "least_raw" = some (some (.ref f_least_raw))) (l_least_raw : K.lookup f_least_raw = some ⟨oc_least_raw, od_least_raw, .func (PySem.W.fnOf "least_raw" "least_raw" (defArgs s_least_raw) (defBody s_least_raw) (defScope s_least_raw) .none kV_least_raw dc_least_raw pm_least_raw an_least_raw cd_least_raw ct_least_raw), sl_least_raw⟩) (k1_least_raw : PySem.W.codeIn K cd_least_raw "least_raw" = true) (k2_least_raw : PySem.W.keepIn K (.ref f_least_raw) = true)
    (a_digits_from : PySem.W.nsIn K mainGlobals "digits_from" = some (some (.ref f_digits_from))) (l_digits_from : K.lookup f_digits_from = some ⟨oc_digits_from, od_digits_from, .func (PySem.W.fnOf "digits_from" "digits_from" (defArgs s_digits_from) (defBody s_digits_from) (defScope s_digits_from) .none kV_digits_from dc_digits_from pm_digits_from an_digits_from cd_digits_from ct_digits_from), sl_digits_from⟩) (k1_digits_from : PySem.W.codeIn K cd_digits_from "digits_from" = true) (k2_digits_from : PySem.W.keepIn K (.ref f_digits_from) = true)
    (a_number_of : PySem.W.nsIn K mainGlobals "number_of" = some (some (.ref f_number_of))) (l_number_of : K.lookup f_number_of = some ⟨oc_number_of, od_number_of, .func (PySem.W.fnOf "number_of" "number_of" (defArgs s_number_of) (defBody s_number_of) (defScope s_number_of) .none kV_number_of dc_number_of pm_number_of an_number_of cd_number_of ct_number_of), sl_number_of⟩) (k1_number_of : PySem.W.codeIn K cd_number_of "number_of" = true) (k2_number_of : PySem.W.keepIn K (.ref f_number_of) = true)
    (a_power_of_ten : PySem.W.nsIn K mainGlobals "power_of_ten" = some (some (.ref f_power_of_ten))) (l_power_of_ten : K.lookup f_power_of_ten = some ⟨oc_power_of_ten, od_power_of_ten, .func (PySem.W.fnOf "power_of_ten" "power_of_ten" (defArgs s_power_of_ten) (defBody s_power_of_ten) (defScope s_power_of_ten) .none kV_power_of_ten dc_power_of_ten pm_power_of_ten an_power_of_ten cd_power_of_ten ct_power_of_ten), sl_power_of_ten⟩) (k1_power_of_ten : PySem.W.codeIn K cd_power_of_ten "power_of_ten" = true) (k2_power_of_ten : PySem.W.keepIn K (.ref f_power_of_ten) = true)
    (a_stands_here : PySem.W.nsIn K mainGlobals "stands_here" = some (some (.ref f_stands_here))) (l_stands_here : K.lookup f_stands_here = some ⟨oc_stands_here, od_stands_here, .func (PySem.W.fnOf "stands_here" "stands_here" (defArgs s_stands_here) (defBody s_stands_here) (defScope s_stands_here) .none kV_stands_here dc_stands_here pm_stands_here an_stands_here cd_stands_here ct_stands_here), sl_stands_here⟩) (k1_stands_here : PySem.W.codeIn K cd_stands_here "stands_here" = true) (k2_stands_here : PySem.W.keepIn K (.ref f_stands_here) = true)
    (a_passes : PySem.W.nsIn K mainGlobals "passes" = some (some (.ref f_passes))) (l_passes : K.lookup f_passes = some ⟨oc_passes, od_passes, .func (PySem.W.fnOf "passes" "passes" (defArgs s_passes) (defBody s_passes) (defScope s_passes) .none kV_passes dc_passes pm_passes an_passes cd_passes ct_passes), sl_passes⟩) (k1_passes : PySem.W.codeIn K cd_passes "passes" = true) (k2_passes : PySem.W.keepIn K (.ref f_passes) = true)
    (a_passes_before_digit : PySem.W.nsIn K mainGlobals "passes_before_digit" = some (some (.ref f_passes_before_digit))) (l_passes_before_digit : K.lookup f_passes_before_digit = some ⟨oc_passes_before_digit, od_passes_before_digit, .func (PySem.W.fnOf "passes_before_digit" "passes_before_digit" (defArgs s_passes_before_digit) (defBody s_passes_before_digit) (defScope s_passes_before_digit) .none kV_passes_before_digit dc_passes_before_digit pm_passes_before_digit an_passes_before_digit cd_passes_before_digit ct_passes_before_digit), sl_passes_before_digit⟩) (k1_passes_before_digit : PySem.W.codeIn K cd_passes_before_digit "passes_before_digit" = true) (k2_passes_before_digit : PySem.W.keepIn K (.ref f_passes_before_digit) = true)
    (a_read_digits : PySem.W.nsIn K mainGlobals "read_digits" = some (some (.ref f_read_digits))) (l_read_digits : K.lookup f_read_digits = some ⟨oc_read_digits, od_read_digits, .func (PySem.W.fnOf "read_digits" "read_digits" (defArgs s_read_digits) (defBody s_read_digits) (defScope s_read_digits) .none kV_read_digits dc_read_digits pm_read_digits an_read_digits cd_read_digits ct_read_digits), sl_read_digits⟩) (k1_read_digits : PySem.W.codeIn K cd_read_digits "read_digits" = true) (k2_read_digits : PySem.W.keepIn K (.ref f_read_digits) = true)
    (a_read_divisor : PySem.W.nsIn K mainGlobals "read_divisor" = some (some (.ref f_read_divisor))) (l_read_divisor : K.lookup f_read_divisor = some ⟨oc_read_divisor, od_read_divisor, .func (PySem.W.fnOf "read_divisor" "read_divisor" (defArgs s_read_divisor) (defBody s_read_divisor) (defScope s_read_divisor) .none kV_read_divisor dc_read_divisor pm_read_divisor an_read_divisor cd_read_divisor ct_read_divisor), sl_read_divisor⟩) (k1_read_divisor : PySem.W.codeIn K cd_read_divisor "read_divisor" = true) (k2_read_divisor : PySem.W.keepIn K (.ref f_read_divisor) = true)
    (a_read_exponent : PySem.W.nsIn K mainGlobals "read_exponent" = some (some (.ref f_read_exponent))) (l_read_exponent : K.lookup f_read_exponent = some ⟨oc_read_exponent, od_read_exponent, .func (PySem.W.fnOf "read_exponent" "read_exponent" (defArgs s_read_exponent) (defBody s_read_exponent) (defScope s_read_exponent) .none kV_read_exponent dc_read_exponent pm_read_exponent an_read_exponent cd_read_exponent ct_read_exponent), sl_read_exponent⟩) (k1_read_exponent : PySem.W.codeIn K cd_read_exponent "read_exponent" = true) (k2_read_exponent : PySem.W.keepIn K (.ref f_read_exponent) = true)
    (a_times_ten_to : PySem.W.nsIn K mainGlobals "times_ten_to" = some (some (.ref f_times_ten_to))) (l_times_ten_to : K.lookup f_times_ten_to = some ⟨oc_times_ten_to, od_times_ten_to, .func (PySem.W.fnOf "times_ten_to" "times_ten_to" (defArgs s_times_ten_to) (defBody s_times_ten_to) (defScope s_times_ten_to) .none kV_times_ten_to dc_times_ten_to pm_times_ten_to an_times_ten_to cd_times_ten_to ct_times_ten_to), sl_times_ten_to⟩) (k1_times_ten_to : PySem.W.codeIn K cd_times_ten_to "times_ten_to" = true) (k2_times_ten_to : PySem.W.keepIn K (.ref f_times_ten_to) = true)
    (a_read_size : PySem.W.nsIn K mainGlobals "read_size" = some (some (.ref f_read_size))) (l_read_size : K.lookup f_read_size = some ⟨oc_read_size, od_read_size, .func (PySem.W.fnOf "read_size" "read_size" (defArgs s_read_size) (defBody s_read_size) (defScope s_read_size) .none kV_read_size dc_read_size pm_read_size an_read_size cd_read_size ct_read_size), sl_read_size⟩) (k1_read_size : PySem.W.codeIn K cd_read_size "read_size" = true) (k2_read_size : PySem.W.keepIn K (.ref f_read_size) = true)
    (a_read_number : PySem.W.nsIn K mainGlobals "read_number" = some (some (.ref f_read_number))) (l_read_number : K.lookup f_read_number = some ⟨oc_read_number, od_read_number, .func (PySem.W.fnOf "read_number" "read_number" (defArgs s_read_number) (defBody s_read_number) (defScope s_read_number) .none kV_read_number dc_read_number pm_read_number an_read_number cd_read_number ct_read_number), sl_read_number⟩) (k1_read_number : PySem.W.codeIn K cd_read_number "read_number" = true) (k2_read_number : PySem.W.keepIn K (.ref f_read_number) = true)
    (a_steps_of : PySem.W.nsIn K mainGlobals "steps_of" = some (some (.ref f_steps_of))) (l_steps_of : K.lookup f_steps_of = some ⟨oc_steps_of, od_steps_of, .func (PySem.W.fnOf "steps_of" "steps_of" (defArgs s_steps_of) (defBody s_steps_of) (defScope s_steps_of) .none kV_steps_of dc_steps_of pm_steps_of an_steps_of cd_steps_of ct_steps_of), sl_steps_of⟩) (k1_steps_of : PySem.W.codeIn K cd_steps_of "steps_of" = true) (k2_steps_of : PySem.W.keepIn K (.ref f_steps_of) = true)
    (a_is_mode : PySem.W.nsIn K mainGlobals "is_mode" = some (some (.ref f_is_mode))) (l_is_mode : K.lookup f_is_mode = some ⟨oc_is_mode, od_is_mode, .func (PySem.W.fnOf "is_mode" "is_mode" (defArgs s_is_mode) (defBody s_is_mode) (defScope s_is_mode) .none kV_is_mode dc_is_mode pm_is_mode an_is_mode cd_is_mode ct_is_mode), sl_is_mode⟩) (k1_is_mode : PySem.W.codeIn K cd_is_mode "is_mode" = true) (k2_is_mode : PySem.W.keepIn K (.ref f_is_mode) = true)
    (a_in_steps : PySem.W.nsIn K mainGlobals "in_steps" = some (some (.ref f_in_steps))) (l_in_steps : K.lookup f_in_steps = some ⟨oc_in_steps, od_in_steps, .func (PySem.W.fnOf "in_steps" "in_steps" (defArgs s_in_steps) (defBody s_in_steps) (defScope s_in_steps) .none kV_in_steps dc_in_steps pm_in_steps an_in_steps cd_in_steps ct_in_steps), sl_in_steps⟩) (k1_in_steps : PySem.W.codeIn K cd_in_steps "in_steps" = true) (k2_in_steps : PySem.W.keepIn K (.ref f_in_steps) = true)
    (a_leading_place : PySem.W.nsIn K mainGlobals "leading_place" = some (some (.ref f_leading_place))) (l_leading_place : K.lookup f_leading_place = some ⟨oc_leading_place, od_leading_place, .func (PySem.W.fnOf "leading_place" "leading_place" (defArgs s_leading_place) (defBody s_leading_place) (defScope s_leading_place) .none kV_leading_place dc_leading_place pm_leading_place an_leading_place cd_leading_place ct_leading_place), sl_leading_place⟩) (k1_leading_place : PySem.W.codeIn K cd_leading_place "leading_place" = true) (k2_leading_place : PySem.W.keepIn K (.ref f_leading_place) = true)
    (a_quarters : PySem.W.nsIn K mainGlobals "quarters" = some (some (.ref f_quarters))) (l_quarters : K.lookup f_quarters = some ⟨oc_quarters, od_quarters, .func (PySem.W.fnOf "quarters" "quarters" (defArgs s_quarters) (defBody s_quarters) (defScope s_quarters) .none kV_quarters dc_quarters pm_quarters an_quarters cd_quarters ct_quarters), sl_quarters⟩) (k1_quarters : PySem.W.codeIn K cd_quarters "quarters" = true) (k2_quarters : PySem.W.keepIn K (.ref f_quarters) = true)
    (a_is_whole : PySem.W.nsIn K mainGlobals "is_whole" = some (some (.ref f_is_whole))) (l_is_whole : K.lookup f_is_whole = some ⟨oc_is_whole, od_is_whole, .func (PySem.W.fnOf "is_whole" "is_whole" (defArgs s_is_whole) (defBody s_is_whole) (defScope s_is_whole) .none kV_is_whole dc_is_whole pm_is_whole an_is_whole cd_is_whole ct_is_whole), sl_is_whole⟩) (k1_is_whole : PySem.W.codeIn K cd_is_whole "is_whole" = true) (k2_is_whole : PySem.W.keepIn K (.ref f_is_whole) = true)
    (a_goes_far : PySem.W.nsIn K mainGlobals "goes_far" = some (some (.ref f_goes_far))) (l_goes_far : K.lookup f_goes_far = some ⟨oc_goes_far, od_goes_far, .func (PySem.W.fnOf "goes_far" "goes_far" (defArgs s_goes_far) (defBody s_goes_far) (defScope s_goes_far) .none kV_goes_far dc_goes_far pm_goes_far an_goes_far cd_goes_far ct_goes_far), sl_goes_far⟩) (k1_goes_far : PySem.W.codeIn K cd_goes_far "goes_far" = true) (k2_goes_far : PySem.W.keepIn K (.ref f_goes_far) = true)
    (a_rounded : PySem.W.nsIn K mainGlobals "rounded" = some (some (.ref f_rounded))) (l_rounded : K.lookup f_rounded = some ⟨oc_rounded, od_rounded, .func (PySem.W.fnOf "rounded" "rounded" (defArgs s_rounded) (defBody s_rounded) (defScope s_rounded) .none kV_rounded dc_rounded pm_rounded an_rounded cd_rounded ct_rounded), sl_rounded⟩) (k1_rounded : PySem.W.codeIn K cd_rounded "rounded" = true) (k2_rounded : PySem.W.keepIn K (.ref f_rounded) = true)
    (a_mode_of : PySem.W.nsIn K mainGlobals "mode_of" = some (some (.ref f_mode_of))) (l_mode_of : K.lookup f_mode_of = some ⟨oc_mode_of, od_mode_of, .func (PySem.W.fnOf "mode_of" "mode_of" (defArgs s_mode_of) (defBody s_mode_of) (defScope s_mode_of) .none kV_mode_of dc_mode_of pm_mode_of an_mode_of cd_mode_of ct_mode_of), sl_mode_of⟩) (k1_mode_of : PySem.W.codeIn K cd_mode_of "mode_of" = true) (k2_mode_of : PySem.W.keepIn K (.ref f_mode_of) = true)
    (a_holds : PySem.W.nsIn K mainGlobals "holds" = some (some (.ref f_holds))) (l_holds : K.lookup f_holds = some ⟨oc_holds, od_holds, .func (PySem.W.fnOf "holds" "holds" (defArgs s_holds) (defBody s_holds) (defScope s_holds) .none kV_holds dc_holds pm_holds an_holds cd_holds ct_holds), sl_holds⟩) (k1_holds : PySem.W.codeIn K cd_holds "holds" = true) (k2_holds : PySem.W.keepIn K (.ref f_holds) = true)
    (a_may_put : PySem.W.nsIn K mainGlobals "may_put" = some (some (.ref f_may_put))) (l_may_put : K.lookup f_may_put = some ⟨oc_may_put, od_may_put, .func (PySem.W.fnOf "may_put" "may_put" (defArgs s_may_put) (defBody s_may_put) (defScope s_may_put) .none kV_may_put dc_may_put pm_may_put an_may_put cd_may_put ct_may_put), sl_may_put⟩) (k1_may_put : PySem.W.codeIn K cd_may_put "may_put" = true) (k2_may_put : PySem.W.keepIn K (.ref f_may_put) = true)
    (a_end_raw : PySem.W.nsIn K mainGlobals "end_raw" = some (some (.ref f_end_raw))) (l_end_raw : K.lookup f_end_raw = some ⟨oc_end_raw, od_end_raw, .func (PySem.W.fnOf "end_raw" "end_raw" (defArgs s_end_raw) (defBody s_end_raw) (defScope s_end_raw) .none kV_end_raw dc_end_raw pm_end_raw an_end_raw cd_end_raw ct_end_raw), sl_end_raw⟩) (k1_end_raw : PySem.W.codeIn K cd_end_raw "end_raw" = true) (k2_end_raw : PySem.W.keepIn K (.ref f_end_raw) = true)
    (a_put_ratio : PySem.W.nsIn K mainGlobals "put_ratio" = some (some (.ref f_put_ratio))) (l_put_ratio : K.lookup f_put_ratio = some ⟨oc_put_ratio, od_put_ratio, .func (PySem.W.fnOf "put_ratio" "put_ratio" (defArgs s_put_ratio) (defBody s_put_ratio) (defScope s_put_ratio) .none kV_put_ratio dc_put_ratio pm_put_ratio an_put_ratio cd_put_ratio ct_put_ratio), sl_put_ratio⟩) (k1_put_ratio : PySem.W.codeIn K cd_put_ratio "put_ratio" = true) (k2_put_ratio : PySem.W.keepIn K (.ref f_put_ratio) = true)
    (a_put_fixed : PySem.W.nsIn K mainGlobals "put_fixed" = some (some (.ref f_put_fixed))) (l_put_fixed : K.lookup f_put_fixed = some ⟨oc_put_fixed, od_put_fixed, .func (PySem.W.fnOf "put_fixed" "put_fixed" (defArgs s_put_fixed) (defBody s_put_fixed) (defScope s_put_fixed) .none kV_put_fixed dc_put_fixed pm_put_fixed an_put_fixed cd_put_fixed ct_put_fixed), sl_put_fixed⟩) (k1_put_fixed : PySem.W.codeIn K cd_put_fixed "put_fixed" = true) (k2_put_fixed : PySem.W.keepIn K (.ref f_put_fixed) = true)
    (a_put_float : PySem.W.nsIn K mainGlobals "put_float" = some (some (.ref f_put_float))) (l_put_float : K.lookup f_put_float = some ⟨oc_put_float, od_put_float, .func (PySem.W.fnOf "put_float" "put_float" (defArgs s_put_float) (defBody s_put_float) (defScope s_put_float) .none kV_put_float dc_put_float pm_put_float an_put_float cd_put_float ct_put_float), sl_put_float⟩) (k1_put_float : PySem.W.codeIn K cd_put_float "put_float" = true) (k2_put_float : PySem.W.keepIn K (.ref f_put_float) = true)
    (a_read : PySem.W.nsIn K mainGlobals "read" = some (some (.ref f_read))) (l_read : K.lookup f_read = some ⟨oc_read, od_read, .func (PySem.W.fnOf "read" "read" (defArgs s_read) (defBody s_read) (defScope s_read) .none kV_read dc_read pm_read an_read cd_read ct_read), sl_read⟩) (k1_read : PySem.W.codeIn K cd_read "read" = true) (k2_read : PySem.W.keepIn K (.ref f_read) = true)
    (ac_Ratio : PySem.W.nsIn K mainGlobals "Ratio" = some (some (.ref a_Ratio))) (a_Ratio_init : PySem.W.findIn K (.ref a_Ratio) "__init__" = some (some (.ref f_Ratio_init))) (n_Ratio_init : PySem.W.isFn K (.ref f_Ratio_init) = true) (l_Ratio_init : K.lookup f_Ratio_init = some ⟨oc_Ratio_init, od_Ratio_init, .func (PySem.W.fnOf "__init__" "Ratio.__init__" (defArgs s_Ratio_init) (defBody s_Ratio_init) (defScope s_Ratio_init) .none kV_Ratio_init dc_Ratio_init pm_Ratio_init an_Ratio_init cd_Ratio_init ct_Ratio_init), sl_Ratio_init⟩) (k1_Ratio_init : PySem.W.codeIn K cd_Ratio_init "Ratio.__init__" = true) (k2_Ratio_init : PySem.W.keepIn K (.ref f_Ratio_init) = true) (pg_Ratio : PySem.W.plainGet K a_Ratio Str.empty = true) (hd_Ratio : PySem.W.hasDictIn K a_Ratio = true) (po_Ratio : PySem.W.plainOver K a_Ratio = true) (sa_Ratio : PySem.W.findIn K (.ref a_Ratio) "__setattr__" = some (some (.builtin "object.__setattr__"))) (mk_Ratio : PySem.W.makesIn K a_Ratio = true) (kc_Ratio : PySem.W.keepIn K (.ref a_Ratio) = true)
    (na_Ratio_top : PySem.W.findIn K (.ref a_Ratio) "top" = some none)
    (na_Ratio_bottom : PySem.W.findIn K (.ref a_Ratio) "bottom" = some none)
    (ac_NoNumber : PySem.W.nsIn K mainGlobals "NoNumber" = some (some (.ref a_NoNumber))) (xl_NoNumber : K.lookup a_NoNumber = some (excClassObj nm_NoNumber q_NoNumber a_NoNumber N_NoNumber bs_NoNumber bmV true sn_NoNumber sub_NoNumber ab_NoNumber col_NoNumber dd_NoNumber v0_NoNumber v1_NoNumber v2_NoNumber v3_NoNumber v5_NoNumber "ValueError.__new__")) (xn_NoNumber : K.lookup N_NoNumber = some oN_NoNumber) (i_x_NoNumber : strKeysB oN_NoNumber = true) (a_NoNumber_init : PySem.W.nsIn K N_NoNumber "__init__" = some (some (.ref f_NoNumber_init))) (n_NoNumber_init : PySem.W.isFn K (.ref f_NoNumber_init) = true) (l_NoNumber_init : K.lookup f_NoNumber_init = some ⟨oc_NoNumber_init, od_NoNumber_init, .func (PySem.W.fnOf "__init__" "NoNumber.__init__" (defArgs s_NoNumber_init) (defBody s_NoNumber_init) (defScope s_NoNumber_init) .none kV_NoNumber_init dc_NoNumber_init pm_NoNumber_init an_NoNumber_init cd_NoNumber_init ct_NoNumber_init), sl_NoNumber_init⟩) (k1_NoNumber_init : PySem.W.codeIn K cd_NoNumber_init "NoNumber.__init__" = true) (k2_NoNumber_init : PySem.W.keepIn K (.ref f_NoNumber_init) = true) (kc_NoNumber : PySem.W.keepIn K (.ref a_NoNumber) = true) (sa_NoNumber : PySem.W.findIn K (.ref a_NoNumber) "__setattr__" = some (some (.builtin "object.__setattr__"))) (ga_NoNumber : PySem.W.findIn K (.ref a_NoNumber) "__getattribute__" = some (some (.builtin "BaseException.__getattribute__"))) (gh_NoNumber : PySem.W.findIn K (.ref a_NoNumber) "__getattr__" = some none)
    (na_NoNumber_place : PySem.W.findIn K (.ref a_NoNumber) "place" = some none)
    (ac_Scan : PySem.W.nsIn K mainGlobals "Scan" = some (some (.ref a_Scan))) (a_Scan_init : PySem.W.findIn K (.ref a_Scan) "__init__" = some (some (.ref f_Scan_init))) (n_Scan_init : PySem.W.isFn K (.ref f_Scan_init) = true) (l_Scan_init : K.lookup f_Scan_init = some ⟨oc_Scan_init, od_Scan_init, .func (PySem.W.fnOf "__init__" "Scan.__init__" (defArgs s_Scan_init) (defBody s_Scan_init) (defScope s_Scan_init) .none kV_Scan_init dc_Scan_init pm_Scan_init an_Scan_init cd_Scan_init ct_Scan_init), sl_Scan_init⟩) (k1_Scan_init : PySem.W.codeIn K cd_Scan_init "Scan.__init__" = true) (k2_Scan_init : PySem.W.keepIn K (.ref f_Scan_init) = true) (pg_Scan : PySem.W.plainGet K a_Scan Str.empty = true) (hd_Scan : PySem.W.hasDictIn K a_Scan = true) (po_Scan : PySem.W.plainOver K a_Scan = true) (sa_Scan : PySem.W.findIn K (.ref a_Scan) "__setattr__" = some (some (.builtin "object.__setattr__"))) (mk_Scan : PySem.W.makesIn K a_Scan = true) (kc_Scan : PySem.W.keepIn K (.ref a_Scan) = true)
    (na_Scan_text : PySem.W.findIn K (.ref a_Scan) "text" = some none)
    (na_Scan_place : PySem.W.findIn K (.ref a_Scan) "place" = some none)
    (na_Scan_room : PySem.W.findIn K (.ref a_Scan) "room" = some none)
    (g_TRUTH : PySem.W.nsIn K mainGlobals "TRUTH" = some (some (.int (0) tk_TRUTH)))
    (g_SIGNED : PySem.W.nsIn K mainGlobals "SIGNED" = some (some (.int (1) tk_SIGNED)))
    (g_UNSIGNED : PySem.W.nsIn K mainGlobals "UNSIGNED" = some (some (.int (2) tk_UNSIGNED)))
    (g_FLOAT : PySem.W.nsIn K mainGlobals "FLOAT" = some (some (.int (3) tk_FLOAT)))
    (g_T : PySem.W.nsIn K mainGlobals "T" = some (some (.int (2048) tk_T)))
    (g_F32 : PySem.W.nsIn K mainGlobals "F32" = some (some (.int (204800) tk_F32)))
    (g_F64 : PySem.W.nsIn K mainGlobals "F64" = some (some (.int (212992) tk_F64)))
    (g_WIDTHS : PySem.W.nsIn K mainGlobals "WIDTHS" = some (some (.ref a_WIDTHS))) (h_WIDTHS : K.lookup a_WIDTHS = some o_WIDTHS) (i_WIDTHS : seqTC o_WIDTHS [.int (8), .int (16), .int (32), .int (64)] = true)
    (g_FRACTION_BITS : PySem.W.nsIn K mainGlobals "FRACTION_BITS" = some (some (.ref a_FRACTION_BITS))) (h_FRACTION_BITS : K.lookup a_FRACTION_BITS = some o_FRACTION_BITS) (i_FRACTION_BITS : dictC o_FRACTION_BITS [(32, .int (23)), (64, .int (52))] = true)
    (g_LOWEST_PLACES : PySem.W.nsIn K mainGlobals "LOWEST_PLACES" = some (some (.ref a_LOWEST_PLACES))) (h_LOWEST_PLACES : K.lookup a_LOWEST_PLACES = some o_LOWEST_PLACES) (i_LOWEST_PLACES : dictC o_LOWEST_PLACES [(32, .int (149)), (64, .int (1074))] = true)
    (g_NOUGHT : PySem.W.nsIn K mainGlobals "NOUGHT" = some (some (.int (48) tk_NOUGHT)))
    (g_MOST_DIGITS : PySem.W.nsIn K mainGlobals "MOST_DIGITS" = some (some (.int (40) tk_MOST_DIGITS)))
    (g_MOST_EXPONENT_DIGITS : PySem.W.nsIn K mainGlobals "MOST_EXPONENT_DIGITS" = some (some (.int (3) tk_MOST_EXPONENT_DIGITS)))
    (g_MINUS : PySem.W.nsIn K mainGlobals "MINUS" = some (some (.int (45) tk_MINUS)))
    (g_POINT : PySem.W.nsIn K mainGlobals "POINT" = some (some (.int (46) tk_POINT)))
    (g_SLASH : PySem.W.nsIn K mainGlobals "SLASH" = some (some (.int (47) tk_SLASH)))
    (g_LETTER_E : PySem.W.nsIn K mainGlobals "LETTER_E" = some (some (.int (101) tk_LETTER_E)))
    (g_INEXACT : PySem.W.nsIn K mainGlobals "INEXACT" = some (some (.int (1) tk_INEXACT)))
    (g_HELD : PySem.W.nsIn K mainGlobals "HELD" = some (some (.int (4) tk_HELD)))
    (g_NEAREST_EVEN : PySem.W.nsIn K mainGlobals "NEAREST_EVEN" = some (some (.int (0) tk_NEAREST_EVEN)))
    (g_TOWARD_NOUGHT : PySem.W.nsIn K mainGlobals "TOWARD_NOUGHT" = some (some (.int (1) tk_TOWARD_NOUGHT)))
    (g_UP : PySem.W.nsIn K mainGlobals "UP" = some (some (.int (2) tk_UP)))
    (g_DOWN : PySem.W.nsIn K mainGlobals "DOWN" = some (some (.int (3) tk_DOWN)))
    (g_NEAREST_FAR : PySem.W.nsIn K mainGlobals "NEAREST_FAR" = some (some (.int (4) tk_NEAREST_FAR)))
    (g_WRONG_ARGUMENT : PySem.W.nsIn K mainGlobals "WRONG_ARGUMENT" = some (some (.int (-1) tk_WRONG_ARGUMENT)))
    (g_NO_SUCH_TEXT : PySem.W.nsIn K mainGlobals "NO_SUCH_TEXT" = some (some (.int (-6) tk_NO_SUCH_TEXT)))
    (g_MOST_BYTES : PySem.W.nsIn K mainGlobals "MOST_BYTES" = some (some (.int (64) tk_MOST_BYTES)))
    (n_abs : PySem.W.nsIn K mainGlobals "abs" = some none)
    (n_len : PySem.W.nsIn K mainGlobals "len" = some none)
    (n_max : PySem.W.nsIn K mainGlobals "max" = some none) (hfa : mg "read" = some (.ref fa)) :
    ∃ fd : FuncData, (∀ (s : Shared) (us : List Value), us.length = (["f", "how", "text"] : List Str).length → BindsTo s fd ⟨us, []⟩ ((["f", "how", "text"] : List Str).zip us)) ∧ ∀ base : Heap, K.In base → base.Ns mainGlobals mg → FnOk P w K mg base CX0 9 fa fd ["f", "how", "text"] (sp_read K) := by
  have T0 : ∃ T : Txt K mg, True := ⟨txt_mk X G a_kind_of l_kind_of k1_kind_of k2_kind_of a_width_of l_width_of k1_width_of k2_width_of a_point_of l_point_of k1_point_of k2_point_of a_is_format l_is_format k1_is_format k2_is_format a_sign_bit l_sign_bit k1_sign_bit k2_sign_bit a_infinity_raw l_infinity_raw k1_infinity_raw k2_infinity_raw a_greatest_raw l_greatest_raw k1_greatest_raw k2_greatest_raw a_least_raw l_least_raw k1_least_raw k2_least_raw a_digits_from l_digits_from k1_digits_from k2_digits_from a_number_of l_number_of k1_number_of k2_number_of a_power_of_ten l_power_of_ten k1_power_of_ten k2_power_of_ten a_stands_here l_stands_here k1_stands_here k2_stands_here a_passes l_passes k1_passes k2_passes a_passes_before_digit l_passes_before_digit k1_passes_before_digit k2_passes_before_digit a_read_digits l_read_digits k1_read_digits k2_read_digits a_read_divisor l_read_divisor k1_read_divisor k2_read_divisor a_read_exponent l_read_exponent k1_read_exponent k2_read_exponent a_times_ten_to l_times_ten_to k1_times_ten_to k2_times_ten_to a_read_size l_read_size k1_read_size k2_read_size a_read_number l_read_number k1_read_number k2_read_number a_steps_of l_steps_of k1_steps_of k2_steps_of a_is_mode l_is_mode k1_is_mode k2_is_mode a_in_steps l_in_steps k1_in_steps k2_in_steps a_leading_place l_leading_place k1_leading_place k2_leading_place a_quarters l_quarters k1_quarters k2_quarters a_is_whole l_is_whole k1_is_whole k2_is_whole a_goes_far l_goes_far k1_goes_far k2_goes_far a_rounded l_rounded k1_rounded k2_rounded a_mode_of l_mode_of k1_mode_of k2_mode_of a_holds l_holds k1_holds k2_holds a_may_put l_may_put k1_may_put k2_may_put a_end_raw l_end_raw k1_end_raw k2_end_raw a_put_ratio l_put_ratio k1_put_ratio k2_put_ratio a_put_fixed l_put_fixed k1_put_fixed k2_put_fixed a_put_float l_put_float k1_put_float k2_put_float a_read l_read k1_read k2_read ac_Ratio a_Ratio_init n_Ratio_init l_Ratio_init k1_Ratio_init k2_Ratio_init pg_Ratio hd_Ratio po_Ratio sa_Ratio mk_Ratio kc_Ratio na_Ratio_top na_Ratio_bottom ac_NoNumber xl_NoNumber xn_NoNumber i_x_NoNumber a_NoNumber_init n_NoNumber_init l_NoNumber_init k1_NoNumber_init k2_NoNumber_init kc_NoNumber sa_NoNumber ga_NoNumber gh_NoNumber na_NoNumber_place ac_Scan a_Scan_init n_Scan_init l_Scan_init k1_Scan_init k2_Scan_init pg_Scan hd_Scan po_Scan sa_Scan mk_Scan kc_Scan na_Scan_text na_Scan_place na_Scan_room g_TRUTH g_SIGNED g_UNSIGNED g_FLOAT g_T g_F32 g_F64 g_WIDTHS h_WIDTHS i_WIDTHS g_FRACTION_BITS h_FRACTION_BITS i_FRACTION_BITS g_LOWEST_PLACES h_LOWEST_PLACES i_LOWEST_PLACES g_NOUGHT g_MOST_DIGITS g_MOST_EXPONENT_DIGITS g_MINUS g_POINT g_SLASH g_LETTER_E g_INEXACT g_HELD g_NEAREST_EVEN g_TOWARD_NOUGHT g_UP g_DOWN g_NEAREST_FAR g_WRONG_ARGUMENT g_NO_SUCH_TEXT g_MOST_BYTES n_abs n_len n_max, trivial⟩
  obtain ⟨T, _⟩ := T0
  have e := hfa.symm.trans T.m_read
  cases e
  exact ⟨T.fd_read, bt_read T, fun base _ _ => ok_read T⟩
end Py
open PySem PySem.W PyProof.Rows
set_option maxRecDepth 100000 in
set_option maxHeartbeats 0 in
theorem PySem.Challenge.cw_exactraws_s14_read_holds : PySem.Challenge.rw_exactraws_s14_read.Holds := by
  w_on; k_headS; (case hw => exact ⟨[.int 0, .int 0, .list []], by decide +kernel, by decide +kernel⟩)
  k_fillS
  refine L2.walk_specK (r := PySem.Challenge.rw_exactraws_s14_read) (k := 9) (CX := L2.CX0) (ps := ["f", "how", "text"]) (sp := Py.sp_read) (by decide +kernel) rfl rfl ⟨rfl, by decide, by decide⟩ (fun w h Y => PySem.W.kIn_of Y) ?F ?S (fun _ _ _ _ z => z)
  case F =>
    intro w mg fa h Y KX G hmg
    refine' Py.all_mk KX G ?a_kind_of ?l_kind_of ?k1_kind_of ?k2_kind_of ?a_width_of ?l_width_of ?k1_width_of ?k2_width_of ?a_point_of ?l_point_of ?k1_point_of ?k2_point_of ?a_is_format ?l_is_format ?k1_is_format ?k2_is_format ?a_sign_bit ?l_sign_bit ?k1_sign_bit ?k2_sign_bit ?a_infinity_raw ?l_infinity_raw ?k1_infinity_raw ?k2_infinity_raw ?a_greatest_raw ?l_greatest_raw ?k1_greatest_raw ?k2_greatest_raw ?a_least_raw ?l_least_raw ?k1_least_raw ?k2_least_raw ?a_digits_from ?l_digits_from ?k1_digits_from ?k2_digits_from ?a_number_of ?l_number_of ?k1_number_of ?k2_number_of ?a_power_of_ten ?l_power_of_ten ?k1_power_of_ten ?k2_power_of_ten ?a_stands_here ?l_stands_here ?k1_stands_here ?k2_stands_here ?a_passes ?l_passes ?k1_passes ?k2_passes ?a_passes_before_digit ?l_passes_before_digit ?k1_passes_before_digit ?k2_passes_before_digit ?a_read_digits ?l_read_digits ?k1_read_digits ?k2_read_digits ?a_read_divisor ?l_read_divisor ?k1_read_divisor ?k2_read_divisor ?a_read_exponent ?l_read_exponent ?k1_read_exponent ?k2_read_exponent ?a_times_ten_to ?l_times_ten_to ?k1_times_ten_to ?k2_times_ten_to ?a_read_size ?l_read_size ?k1_read_size ?k2_read_size ?a_read_number ?l_read_number ?k1_read_number ?k2_read_number ?a_steps_of ?l_steps_of ?k1_steps_of ?k2_steps_of ?a_is_mode ?l_is_mode ?k1_is_mode ?k2_is_mode ?a_in_steps ?l_in_steps ?k1_in_steps ?k2_in_steps ?a_leading_place ?l_leading_place ?k1_leading_place ?k2_leading_place ?a_quarters ?l_quarters ?k1_quarters ?k2_quarters ?a_is_whole ?l_is_whole ?k1_is_whole ?k2_is_whole ?a_goes_far ?l_goes_far ?k1_goes_far ?k2_goes_far ?a_rounded ?l_rounded ?k1_rounded ?k2_rounded ?a_mode_of ?l_mode_of ?k1_mode_of ?k2_mode_of ?a_holds ?l_holds ?k1_holds ?k2_holds ?a_may_put ?l_may_put ?k1_may_put ?k2_may_put ?a_end_raw ?l_end_raw ?k1_end_raw ?k2_end_raw ?a_put_ratio ?l_put_ratio ?k1_put_ratio ?k2_put_ratio ?a_put_fixed ?l_put_fixed ?k1_put_fixed ?k2_put_fixed ?a_put_float ?l_put_float ?k1_put_float ?k2_put_float ?a_read ?l_read ?k1_read ?k2_read ?ac_Ratio ?a_Ratio_init ?n_Ratio_init ?l_Ratio_init ?k1_Ratio_init ?k2_Ratio_init ?pg_Ratio ?hd_Ratio ?po_Ratio ?sa_Ratio ?mk_Ratio ?kc_Ratio ?na_Ratio_top ?na_Ratio_bottom ?ac_NoNumber ?xl_NoNumber ?xn_NoNumber ?i_x_NoNumber ?a_NoNumber_init ?n_NoNumber_init ?l_NoNumber_init ?k1_NoNumber_init ?k2_NoNumber_init ?kc_NoNumber ?sa_NoNumber ?ga_NoNumber ?gh_NoNumber ?na_NoNumber_place ?ac_Scan ?a_Scan_init ?n_Scan_init ?l_Scan_init ?k1_Scan_init ?k2_Scan_init ?pg_Scan ?hd_Scan ?po_Scan ?sa_Scan ?mk_Scan ?kc_Scan ?na_Scan_text ?na_Scan_place ?na_Scan_room ?g_TRUTH ?g_SIGNED ?g_UNSIGNED ?g_FLOAT ?g_T ?g_F32 ?g_F64 ?g_WIDTHS ?h_WIDTHS ?i_WIDTHS ?g_FRACTION_BITS ?h_FRACTION_BITS ?i_FRACTION_BITS ?g_LOWEST_PLACES ?h_LOWEST_PLACES ?i_LOWEST_PLACES ?g_NOUGHT ?g_MOST_DIGITS ?g_MOST_EXPONENT_DIGITS ?g_MINUS ?g_POINT ?g_SLASH ?g_LETTER_E ?g_INEXACT ?g_HELD ?g_NEAREST_EVEN ?g_TOWARD_NOUGHT ?g_UP ?g_DOWN ?g_NEAREST_FAR ?g_WRONG_ARGUMENT ?g_NO_SUCH_TEXT ?g_MOST_BYTES ?n_abs ?n_len ?n_max hmg
    (case a_kind_of => k_is)
    (case l_kind_of => k_is)
    (case k1_kind_of => k_is)
    (case k2_kind_of => k_is)
    (case a_width_of => k_is)
    (case l_width_of => k_is)
    (case k1_width_of => k_is)
    (case k2_width_of => k_is)
    (case a_point_of => k_is)
    (case l_point_of => k_is)
    (case k1_point_of => k_is)
    (case k2_point_of => k_is)
    (case a_is_format => k_is)
    (case l_is_format => k_is)
    (case k1_is_format => k_is)
    (case k2_is_format => k_is)
    (case a_sign_bit => k_is)
    (case l_sign_bit => k_is)
    (case k1_sign_bit => k_is)
    (case k2_sign_bit => k_is)
    (case a_infinity_raw => k_is)
    (case l_infinity_raw => k_is)
    (case k1_infinity_raw => k_is)
    (case k2_infinity_raw => k_is)
    (case a_greatest_raw => k_is)
    (case l_greatest_raw => k_is)
    (case k1_greatest_raw => k_is)
    (case k2_greatest_raw => k_is)
    (case a_least_raw => k_is)
    (case l_least_raw => k_is)
    (case k1_least_raw => k_is)
    (case k2_least_raw => k_is)
    (case a_digits_from => k_is)
    (case l_digits_from => k_is)
    (case k1_digits_from => k_is)
    (case k2_digits_from => k_is)
    (case a_number_of => k_is)
    (case l_number_of => k_is)
    (case k1_number_of => k_is)
    (case k2_number_of => k_is)
    (case a_power_of_ten => k_is)
    (case l_power_of_ten => k_is)
    (case k1_power_of_ten => k_is)
    (case k2_power_of_ten => k_is)
    (case a_stands_here => k_is)
    (case l_stands_here => k_is)
    (case k1_stands_here => k_is)
    (case k2_stands_here => k_is)
    (case a_passes => k_is)
    (case l_passes => k_is)
    (case k1_passes => k_is)
    (case k2_passes => k_is)
    (case a_passes_before_digit => k_is)
    (case l_passes_before_digit => k_is)
    (case k1_passes_before_digit => k_is)
    (case k2_passes_before_digit => k_is)
    (case a_read_digits => k_is)
    (case l_read_digits => k_is)
    (case k1_read_digits => k_is)
    (case k2_read_digits => k_is)
    (case a_read_divisor => k_is)
    (case l_read_divisor => k_is)
    (case k1_read_divisor => k_is)
    (case k2_read_divisor => k_is)
    (case a_read_exponent => k_is)
    (case l_read_exponent => k_is)
    (case k1_read_exponent => k_is)
    (case k2_read_exponent => k_is)
    (case a_times_ten_to => k_is)
    (case l_times_ten_to => k_is)
    (case k1_times_ten_to => k_is)
    (case k2_times_ten_to => k_is)
    (case a_read_size => k_is)
    (case l_read_size => k_is)
    (case k1_read_size => k_is)
    (case k2_read_size => k_is)
    (case a_read_number => k_is)
    (case l_read_number => k_is)
    (case k1_read_number => k_is)
    (case k2_read_number => k_is)
    (case a_steps_of => k_is)
    (case l_steps_of => k_is)
    (case k1_steps_of => k_is)
    (case k2_steps_of => k_is)
    (case a_is_mode => k_is)
    (case l_is_mode => k_is)
    (case k1_is_mode => k_is)
    (case k2_is_mode => k_is)
    (case a_in_steps => k_is)
    (case l_in_steps => k_is)
    (case k1_in_steps => k_is)
    (case k2_in_steps => k_is)
    (case a_leading_place => k_is)
    (case l_leading_place => k_is)
    (case k1_leading_place => k_is)
    (case k2_leading_place => k_is)
    (case a_quarters => k_is)
    (case l_quarters => k_is)
    (case k1_quarters => k_is)
    (case k2_quarters => k_is)
    (case a_is_whole => k_is)
    (case l_is_whole => k_is)
    (case k1_is_whole => k_is)
    (case k2_is_whole => k_is)
    (case a_goes_far => k_is)
    (case l_goes_far => k_is)
    (case k1_goes_far => k_is)
    (case k2_goes_far => k_is)
    (case a_rounded => k_is)
    (case l_rounded => k_is)
    (case k1_rounded => k_is)
    (case k2_rounded => k_is)
    (case a_mode_of => k_is)
    (case l_mode_of => k_is)
    (case k1_mode_of => k_is)
    (case k2_mode_of => k_is)
    (case a_holds => k_is)
    (case l_holds => k_is)
    (case k1_holds => k_is)
    (case k2_holds => k_is)
    (case a_may_put => k_is)
    (case l_may_put => k_is)
    (case k1_may_put => k_is)
    (case k2_may_put => k_is)
    (case a_end_raw => k_is)
    (case l_end_raw => k_is)
    (case k1_end_raw => k_is)
    (case k2_end_raw => k_is)
    (case a_put_ratio => k_is)
    (case l_put_ratio => k_is)
    (case k1_put_ratio => k_is)
    (case k2_put_ratio => k_is)
    (case a_put_fixed => k_is)
    (case l_put_fixed => k_is)
    (case k1_put_fixed => k_is)
    (case k2_put_fixed => k_is)
    (case a_put_float => k_is)
    (case l_put_float => k_is)
    (case k1_put_float => k_is)
    (case k2_put_float => k_is)
    (case a_read => k_is)
    (case l_read => k_is)
    (case k1_read => k_is)
    (case k2_read => k_is)
    (case ac_Ratio => k_is)
    (case a_Ratio_init => k_is)
    (case n_Ratio_init => k_is)
    (case l_Ratio_init => k_is)
    (case k1_Ratio_init => k_is)
    (case k2_Ratio_init => k_is)
    (case pg_Ratio => k_is)
    (case hd_Ratio => k_is)
    (case po_Ratio => k_is)
    (case sa_Ratio => k_is)
    (case mk_Ratio => k_is)
    (case kc_Ratio => k_is)
    (case na_Ratio_top => k_is)
    (case na_Ratio_bottom => k_is)
    (case ac_NoNumber => k_is)
    (case xl_NoNumber => k_is)
    (case xn_NoNumber => k_is)
    (case i_x_NoNumber => exact rfl)
    (case a_NoNumber_init => k_is)
    (case n_NoNumber_init => k_is)
    (case l_NoNumber_init => k_is)
    (case k1_NoNumber_init => k_is)
    (case k2_NoNumber_init => k_is)
    (case kc_NoNumber => k_is)
    (case sa_NoNumber => k_is)
    (case ga_NoNumber => k_is)
    (case gh_NoNumber => k_is)
    (case na_NoNumber_place => k_is)
    (case ac_Scan => k_is)
    (case a_Scan_init => k_is)
    (case n_Scan_init => k_is)
    (case l_Scan_init => k_is)
    (case k1_Scan_init => k_is)
    (case k2_Scan_init => k_is)
    (case pg_Scan => k_is)
    (case hd_Scan => k_is)
    (case po_Scan => k_is)
    (case sa_Scan => k_is)
    (case mk_Scan => k_is)
    (case kc_Scan => k_is)
    (case na_Scan_text => k_is)
    (case na_Scan_place => k_is)
    (case na_Scan_room => k_is)
    (case g_TRUTH => k_is)
    (case g_SIGNED => k_is)
    (case g_UNSIGNED => k_is)
    (case g_FLOAT => k_is)
    (case g_T => k_is)
    (case g_F32 => k_is)
    (case g_F64 => k_is)
    (case g_WIDTHS => k_is)
    (case h_WIDTHS => k_is)
    (case i_WIDTHS => decide +kernel)
    (case g_FRACTION_BITS => k_is)
    (case h_FRACTION_BITS => k_is)
    (case i_FRACTION_BITS => decide +kernel)
    (case g_LOWEST_PLACES => k_is)
    (case h_LOWEST_PLACES => k_is)
    (case i_LOWEST_PLACES => decide +kernel)
    (case g_NOUGHT => k_is)
    (case g_MOST_DIGITS => k_is)
    (case g_MOST_EXPONENT_DIGITS => k_is)
    (case g_MINUS => k_is)
    (case g_POINT => k_is)
    (case g_SLASH => k_is)
    (case g_LETTER_E => k_is)
    (case g_INEXACT => k_is)
    (case g_HELD => k_is)
    (case g_NEAREST_EVEN => k_is)
    (case g_TOWARD_NOUGHT => k_is)
    (case g_UP => k_is)
    (case g_DOWN => k_is)
    (case g_NEAREST_FAR => k_is)
    (case g_WRONG_ARGUMENT => k_is)
    (case g_NO_SUCH_TEXT => k_is)
    (case g_MOST_BYTES => k_is)
    (case n_abs => k_is)
    (case n_len => k_is)
    (case n_max => k_is)
  case S =>
    intro K H xs a hO hwi hask hx
    cases hx with
    | cons h1 hx =>
      cases h1
      cases hx with
      | cons h1 hx =>
        cases h1
        cases hx with
        | cons h1 hx =>
          cases h1 with
          | lst hs ha =>
            have e := L2.ints_dw a.2.2.1 _ ha
            subst e
            cases hx
            have q : (Codec.inInt (-2147483648) 2147483647 a.1 && (Codec.inInt (-2147483648) 2147483647 a.2.1 && ((Codec.inLen 0 70 a.2.2.1 && a.2.2.1.all (Codec.inInt 0 255)) && true))) = true := hwi
            rw [Bool.and_eq_true, Bool.and_eq_true, Bool.and_eq_true, Bool.and_eq_true] at q
            have hb : ∀ z ∈ a.2.2.1, 0 ≤ z ∧ z ≤ 255 := fun z hz => by
              have h := List.all_eq_true.mp q.2.2.1.2 z hz
              unfold Codec.inInt at h
              simpa using h
            refine ⟨a.1, a.2.1, _, NumNeutral.bytesOf a.2.2.1, rfl, ?_, fun H' p hp => ?_⟩
            · rw [show L2.tI (NumNeutral.bytesOf a.2.2.1) = a.2.2.1 from Py.bytes_back a.2.2.1 hb]
              exact hs
            · rw [Py.read_eq] at hp
              exact .lst (L2.SqL.of hp) (L2.dw_ints _)
