import PyProof.Rows.All
import Wide.All
import OpenK.AllK
import Wide.FinOn
import PyProof.EqAt
import PyProof.EqKinds
import PyProof.TupleCall
import KE.BitLaws
import Open.SpecLaws
import KE.OsHead
import KE.OsGo
import PySem.Challenge.RW_exactraws_s15_write
set_option Elab.async false
set_option linter.all false
set_option maxRecDepth 100000
set_option exponentiation.threshold 100000
namespace L2
def Sz (n : Nat) (i : Int) : Prop := i.natAbs < 2 ^ n
instance szDec (n : Nat) (i : Int) : Decidable (Sz n i) := inferInstanceAs (Decidable (i.natAbs < 2 ^ n))
theorem Sz.mono {m n : Nat} {i : Int} (h : Sz m i) (l : m ≤ n) : Sz n i := Nat.lt_of_lt_of_le h (Nat.pow_le_pow_right (by decide) l)
def dictI : List (Int × Int) → Int → Int
  | [], _ => 0
  | (a, v) :: r, k => if a = k then v else dictI r k
abbrev absI (i : Int) : Int := if i < 0 then -i else i
theorem not_t {b : Bool} (h : (!b) = true) : b = false := by cases b <;> simp_all
theorem not_f {b : Bool} (h : (!b) = false) : b = true := by cases b <;> simp_all
theorem Sz.neg {n : Nat} {i : Int} (h : Sz n i) : Sz n (-i) := by unfold Sz at *; rw [Int.natAbs_neg]; exact h
theorem Sz.abs {n : Nat} {i : Int} (h : Sz n i) : Sz n (absI i) := by
  unfold Sz absI at *
  split
  · rw [Int.natAbs_neg]; exact h
  · exact h
theorem Sz.add {m n : Nat} {i j : Int} (h : Sz m i) (g : Sz n j) : Sz (max m n + 1) (i + j) := by
  have h' : i.natAbs < 2 ^ max m n := Nat.lt_of_lt_of_le h (Nat.pow_le_pow_right (by decide) (Nat.le_max_left _ _))
  have g' : j.natAbs < 2 ^ max m n := Nat.lt_of_lt_of_le g (Nat.pow_le_pow_right (by decide) (Nat.le_max_right _ _))
  unfold Sz
  rw [Nat.pow_succ]
  have := Int.natAbs_add_le i j
  omega
theorem Sz.two {n : Nat} (k : Nat) (h : k < n) : Sz n (2 ^ k) := by
  unfold Sz
  rw [Int.natAbs_pow]
  exact Nat.pow_lt_pow_right (by decide) h
theorem Sz.shl {m : Nat} {i : Int} {k n : Nat} (h : Sz m i) (hk : k ≤ n) : Sz (m + n) (i * 2 ^ k) := by
  unfold Sz at *
  rw [Int.natAbs_mul, Int.natAbs_pow, Nat.pow_add]
  show i.natAbs * 2 ^ k < _
  have h1 : i.natAbs * 2 ^ k ≤ i.natAbs * 2 ^ n := Nat.mul_le_mul_left _ (Nat.pow_le_pow_right (by decide) hk)
  have h2 : i.natAbs * 2 ^ n < 2 ^ m * 2 ^ n := Nat.mul_lt_mul_of_pos_right h (Nat.pow_pos (by decide))
  omega
theorem Sz.of_le {n : Nat} {i j : Int} (h : Sz n j) (l : i.natAbs ≤ j.natAbs) : Sz n i := Nat.lt_of_le_of_lt l h
theorem Sz.log {n : Nat} {i : Int} (h : Sz n i) (h0 : 0 < n) : i.natAbs.log2 < n := by
  by_cases c : i.natAbs = 0
  · rw [c]; exact h0
  · exact (Nat.log2_lt c).mpr h
end L2

set_option Elab.async false
set_option linter.all false
set_option maxRecDepth 100000
namespace L2
open PySem PySem.Spec PyProof.Rows
abbrev Key := Sum Int Str
def keyIs : Key → Value → Bool
  | .inl k, v => Value.isInt k v
  | .inr x, v => Value.isStrOf x v
def keyH (w : World) : Key → Int
  | .inl k => hashInt k
  | .inr x => hashStr w x
theorem keyIs_shape : ∀ {k : Key} {v : Value}, keyIs k v = true → (∃ i t, k = Sum.inl i ∧ v = Value.int i t) ∨ (∃ x t, k = Sum.inr x ∧ v = Value.str x t)
  | .inl i, v, h => by
    obtain ⟨t, e⟩ := Value.isInt_shape (k := i) (v := v) h
    exact .inl ⟨i, t, rfl, e⟩
  | .inr x, v, h => by
    obtain ⟨t, e⟩ := Value.isStrOf_shape (x := x) (v := v) h
    exact .inr ⟨x, t, rfl, e⟩
theorem key_ll (a b : Int) : decide ((Sum.inl a : Key) = Sum.inl b) = (a == b) := by
  by_cases e : a = b
  · subst e; simp
  · have h : ¬ (Sum.inl a : Key) = Sum.inl b := fun q => e (Sum.inl.inj q)
    rw [decide_eq_false h]
    exact (beq_eq_false_iff_ne.mpr e).symm
theorem key_rr (a b : Str) : decide ((Sum.inr a : Key) = Sum.inr b) = decide (a = b) := by
  by_cases e : a = b
  · subst e; simp
  · have h : ¬ (Sum.inr a : Key) = Sum.inr b := fun q => e (Sum.inr.inj q)
    rw [decide_eq_false h, decide_eq_false e]
theorem key_lr (a : Int) (b : Str) : decide ((Sum.inl a : Key) = Sum.inr b) = false := decide_eq_false (fun q => nomatch q)
theorem key_rl (a : Str) (b : Int) : decide ((Sum.inr a : Key) = Sum.inl b) = false := decide_eq_false (fun q => nomatch q)

def mixKind (prog : Program) (w : World) : PySem.KeyKind prog w Key where
  is := keyIs
  hash := keyH w
  inj := fun v a b ha hb => by
    rcases keyIs_shape ha with ⟨i, t, rfl, rfl⟩ | ⟨x, t, rfl, rfl⟩
    · rcases keyIs_shape hb with ⟨j, u, rfl, e⟩ | ⟨y, u, rfl, e⟩
      · injection e with e1 _; rw [e1]
      · exact nomatch e
    · rcases keyIs_shape hb with ⟨j, u, rfl, e⟩ | ⟨y, u, rfl, e⟩
      · exact nomatch e
      · injection e with e1 _; rw [e1]
  byValue := fun k v h => by
    rcases keyIs_shape h with ⟨i, t, rfl, rfl⟩ | ⟨x, t, rfl, rfl⟩ <;> rfl
  pyHash := fun hv h => by
    rcases keyIs_shape hv with ⟨i, t, rfl, rfl⟩ | ⟨x, t, rfl, rfl⟩
    · exact wpAny_pyHash_int h
    · exact wpAny_pyHash_str h
  eqBool := fun hu hv h => by
    rcases keyIs_shape hu with ⟨i, t, rfl, rfl⟩ | ⟨x, t, rfl, rfl⟩
    · rcases keyIs_shape hv with ⟨j, u, rfl, rfl⟩ | ⟨y, u, rfl, rfl⟩
      · rw [key_ll] at h; exact wpAny_eqBool_int h
      · rw [key_lr] at h; exact SeqAt.EqAt.int_str i t y u _ _ _ _ h
    · rcases keyIs_shape hv with ⟨j, u, rfl, rfl⟩ | ⟨y, u, rfl, rfl⟩
      · rw [key_rl] at h; exact SeqAt.EqAt.str_int x t j u _ _ _ _ h
      · rw [key_rr] at h; exact wpAny_eqBool_str h
  «strs» := fun k x t v h => by
    rcases keyIs_shape h with ⟨i, u, rfl, e⟩ | ⟨y, u, rfl, e⟩
    · exact nomatch e
    · injection e with e1 _
      subst e1
      cases v <;> rfl

end L2
namespace L2
open PySem PySem.Spec PyProof.Rows
inductive V where
  | non | bl (b : Bool) | int (i : Int) | str (x : Str) | byt (b : Array UInt8) | flt (b : UInt64) | ref (a : Addr) | ty (n : String)
  deriving DecidableEq

def RelV : V → Value → Prop
  | .non, u => u = Value.none
  | .bl b, u => u = Value.bool b
  | .int i, u => ∃ t, u = Value.int i t
  | .str x, u => ∃ t, u = Value.str x t
  | .byt b, u => ∃ t, u = Value.bytes b t
  | .flt b, u => ∃ t, u = Value.float b t
  | .ref a, u => u = Value.ref a
  | .ty n, u => u = Value.type n

abbrev Vals : List V → List Value → Prop := Paired RelV
theorem Vals.length {xs : List V} {us : List Value} (r : Vals xs us) : xs.length = us.length := Paired.length r
theorem Vals.get : ∀ {xs : List V} {us : List Value} {i : Nat} {x : V}, Vals xs us → xs[i]? = some x → ∃ u, us[i]? = some u ∧ RelV x u
  | _, _, _, _, .nil, e => by simp at e
  | _, _, 0, _, .cons r _, e => by simp at e; subst e; exact ⟨_, rfl, r⟩
  | _, _, i + 1, x, .cons _ t, e => by
    obtain ⟨u, h1, h2⟩ := Vals.get (i := i) (x := x) t (by simpa using e)
    exact ⟨u, by simpa using h1, h2⟩
theorem Vals.set {x : V} {u : Value} (r : RelV x u) : ∀ {xs : List V} {us : List Value} (i : Nat), Vals xs us → Vals (xs.set i x) (us.set i u)
  | _, _, _, .nil => .nil
  | _, _, 0, .cons _ t => .cons r t
  | _, _, i + 1, .cons q t => .cons q (Vals.set r i t)
theorem Vals.append : ∀ {xs ys : List V} {us ws : List Value}, Vals xs us → Vals ys ws → Vals (xs ++ ys) (us ++ ws)
  | _, _, _, _, .nil, s => s
  | _, _, _, _, .cons r t, s => .cons r (Vals.append t s)
theorem Vals.take : ∀ {xs : List V} {us : List Value} (n : Nat), Vals xs us → Vals (xs.take n) (us.take n)
  | _, _, 0, _ => .nil
  | _, _, _ + 1, .nil => .nil
  | _, _, n + 1, .cons r t => .cons r (Vals.take n t)
theorem Vals.drop : ∀ {xs : List V} {us : List Value} (n : Nat), Vals xs us → Vals (xs.drop n) (us.drop n)
  | _, _, 0, r => r
  | _, _, _ + 1, .nil => .nil
  | _, _, n + 1, .cons _ t => Vals.drop n t
def RelO : Option V → Option Value → Prop
  | some v, some u => RelV v u
  | none, none => True
  | _, _ => False
def KV {κ : Type} : List (κ × V) → List (κ × Value) → Prop := Paired fun (p : κ × V) (q : κ × Value) => p.1 = q.1 ∧ RelV p.2 q.2

def kV : Key → V
  | .inl i => .int i
  | .inr x => .str x

inductive HO where
  /-- a list -/
  | lst (xs : List V)
  /-- a tuple (never changes) -/
  | tup (xs : List V)
  /-- a dict whose keys are ints and texts; one whose keys are tuples of ints and texts (the empty one is both) -/
  | dK (kvs : List (Key × V)) | dT (kvs : List (List Key × V))
  /-- a set of ints: its members, its size -/
  | set (S : Int → Bool) (n : Nat)
  /-- an instance of the class at C, its dict at dx, its attributes -/
  | ins (C dx : Addr) (fs : List (Str × V))
  /-- the dict of the instance at x -/
  | own (x : Addr)
  /-- the dict of an exception -/
  | xd (fs : List (Str × V))
  /-- a bound method, f of x -/
  | met (f x : Addr)
  /-- a range object lo, lo + 1, .. below hi -/
  | rng (lo hi : Int)
  /-- a thing that is known to the object (the script; a dict while a loop walks it): read, never written while it is so -/
  | frz (o : Obj) (u : HO)
  /-- a code object's table -/
  | tbl (ps : Array Value)
  /-- any other thing, by what is true of its one object (a def of one's own: SetO a S n := HO.ext fun h => ..) -/
  | ext (φ : Heap → Prop)

abbrev Hp := Addr → Option HO
def upd (H : Hp) (a : Addr) (o : HO) : Hp := fun b => if b = a then some o else H b
theorem upd_same {H : Hp} {a : Addr} {o : HO} : upd H a o a = some o := by unfold upd; rw [if_pos rfl]
theorem upd_ne {H : Hp} {a b : Addr} {o : HO} (h : b ≠ a) : upd H a o b = H b := by unfold upd; rw [if_neg h]
theorem ne_of_none {H : Hp} {a b : Addr} {o : HO} (h : H a = some o) (h' : H b = none) : a ≠ b := by
  intro e; subst e; rw [h] at h'; cases h'

section
variable (P : Program) (w : World)
def ObjOk (H : Hp) (h : Heap) (a : Addr) : HO → Prop
  | .lst xs => xs.length ≤ sizeLine ∧ ∃ (its : List Value) (n : Nat), Vals xs its ∧ h.get? a = some { cls := .type "list", data := .seq its.toArray n }
  | .tup xs => xs.length ≤ sizeLine ∧ ∃ its : List Value, Vals xs its ∧ IsTup h a its.toArray
  | .dK kvs => kvs.length ≤ sizeLine ∧ (a == sysModules) = false ∧ ∃ vs, KV kvs vs ∧ h.DictOf (mixKind P w) a vs
  | .dT kvs => kvs.length ≤ sizeLine ∧ (a == sysModules) = false ∧ ∃ xs : List (List Key × Addr × Value),
      Paired (fun (p : List Key × V) (q : List Key × Addr × Value) => p.1 = q.1 ∧ H q.2.1 = some (.tup (p.1.map kV)) ∧ RelV p.2 q.2.2) kvs xs ∧
      ∃ o es ep, h.get? a = some o ∧ o.ExactDict ∧ o.data = .dict es ep ∧ es.toList = xs.map (entryOfKey (tupleKind (mixKind P w))) ∧ (xs.map (·.1)).Nodup
  | .set S n => h.SetOf (intKind P w) a S n
  | .ins C dx fs => H dx = some (.own a) ∧ fs.length ≤ 1000 ∧ dx ≠ a ∧ h.get? a = some (PySem.W.instObj C dx) ∧
      ∃ mA, h.Ns1 dx mA ∧ (∀ f, RelO (fs.lookup f) (mA f)) ∧ PySem.Within mA (fs.map (·.1))
  | .own _ => ∃ o, h.get? a = some o
  | .xd fs => ∃ mA, h.Ns1 a mA ∧ ∀ f, RelO (fs.lookup f) (mA f)
  | .rng lo hi => ∃ t u v, h.get? a = some { cls := .type "range", data := .fields #[.int lo t, .int hi u, .int 1 v] }
  | .frz o u => h.get? a = some o ∧ ObjOk H h a u
  | .tbl ps => h.get? a = some { cls := .none, data := .fields ps }
  | .met f x => h.get? a = some (PySem.W.methodObj (.ref f) (.ref x))
  | .ext φ => φ h ∧ (∃ o, h.get? a = some o) ∧ ∀ h1 h2 : Heap, φ h1 → (∀ o, h1.get? a = some o → h2.get? a = some o) → φ h2
def HOk (H : Hp) (h : Heap) : Prop := ∀ a o, H a = some o → ObjOk P w H h a o
end
section
variable {P : Program} {w : World} {H H' : Hp} {h h' : Heap} {a : Addr} {o : HO}
theorem ObjOk.lt (x : ObjOk P w H h a o) : a < h.objs.size := by
  cases o with
  | lst xs => obtain ⟨_, _, _, _, e⟩ := x; exact Heap.lt_size e
  | tup xs => obtain ⟨_, _, _, p⟩ := x; exact p.lt
  | dK kvs => obtain ⟨_, _, _, _, o, _, _, e, _⟩ := x; exact Heap.lt_size e
  | dT kvs => obtain ⟨_, _, _, _, o, _, _, e, _⟩ := x; exact Heap.lt_size e
  | set S n => obtain ⟨o, _, _, _, e, _⟩ := x; exact Heap.lt_size e
  | ins C dx fs => obtain ⟨_, _, _, e, _⟩ := x; exact Heap.lt_size e
  | own y => obtain ⟨_, e⟩ := x; exact Heap.lt_size e
  | xd fs => obtain ⟨_, ⟨_, _, _, e, _⟩, _⟩ := x; exact Heap.lt_size e
  | rng lo hi => obtain ⟨_, _, _, e⟩ := x; exact Heap.lt_size e
  | frz ob u => obtain ⟨e, _⟩ := x; exact Heap.lt_size e
  | tbl ps => exact Heap.lt_size (show h.get? a = some _ from x)
  | met f y => exact Heap.lt_size (show h.get? a = some _ from x)
  | ext φ => obtain ⟨_, ⟨_, e⟩, _⟩ := x; exact Heap.lt_size e
theorem Paired.mapP {α β : Type} {F G : α → β → Prop} : ∀ {l₁ : List α} {l₂ : List β}, Paired F l₁ l₂ → (∀ a b, F a b → G a b) → Paired G l₁ l₂
  | _, _, .nil, _ => .nil
  | _, _, .cons r t, f => .cons (f _ _ r) (Paired.mapP t f)
theorem ObjOk.stay (x : ObjOk P w H h a o) (k : ∀ b u, (b = a ∨ H b = some (.own a)) → h.get? b = some u → h'.get? b = some u)
    (ho : ∀ b, H b = some (.own a) → H' b = some (.own a)) (ht : ∀ b xs, H b = some (.tup xs) → H' b = some (.tup xs)) : ObjOk P w H' h' a o := by
  induction o with
  | lst xs => obtain ⟨z, its, n, r, e⟩ := x; exact ⟨z, its, n, r, k _ _ (.inl rfl) e⟩
  | tup xs => obtain ⟨z, its, r, ob, e, c⟩ := x; exact ⟨z, its, r, ob, k _ _ (.inl rfl) e, c⟩
  | dK kvs => obtain ⟨z, y, vs, r, ob, es, ep, e, c⟩ := x; exact ⟨z, y, vs, r, ob, es, ep, k _ _ (.inl rfl) e, c⟩
  | dT kvs =>
    obtain ⟨z, y, xs, r, ob, es, ep, e, c⟩ := x
    exact ⟨z, y, xs, Paired.mapP r fun p q z => ⟨z.1, ht _ _ z.2.1, z.2.2⟩, ob, es, ep, k _ _ (.inl rfl) e, c⟩
  | set S n => obtain ⟨ob, es, ep, t, e, c⟩ := x; exact ⟨ob, es, ep, t, k _ _ (.inl rfl) e, c⟩
  | ins C dx fs =>
    obtain ⟨d, z, ne, e, mA, ⟨od, es, ep, e2, c⟩, r⟩ := x
    exact ⟨ho _ d, z, ne, k _ _ (.inl rfl) e, mA, ⟨od, es, ep, k _ _ (.inr d) e2, c⟩, r⟩
  | own y => obtain ⟨ob, e⟩ := x; exact ⟨ob, k _ _ (.inl rfl) e⟩
  | xd fs => obtain ⟨mA, ⟨od, es, ep, e, c⟩, r⟩ := x; exact ⟨mA, ⟨od, es, ep, k _ _ (.inl rfl) e, c⟩, r⟩
  | rng lo hi => obtain ⟨t, u, v, e⟩ := x; exact ⟨t, u, v, k _ _ (.inl rfl) e⟩
  | frz ob u ih => obtain ⟨e, q⟩ := x; exact ⟨k _ _ (.inl rfl) e, ih q⟩
  | tbl ps =>
    have e : h.get? a = some { cls := .none, data := .fields ps } := x
    show h'.get? a = some { cls := .none, data := .fields ps }
    exact k a _ (.inl rfl) e
  | met f y =>
    have e : h.get? a = some (PySem.W.methodObj (.ref f) (.ref y)) := x
    show h'.get? a = some (PySem.W.methodObj (.ref f) (.ref y))
    exact k a _ (.inl rfl) e
  | ext φ => obtain ⟨p, ⟨o, e⟩, st⟩ := x; exact ⟨st _ _ p fun o q => k _ _ (.inl rfl) q, ⟨o, k _ _ (.inl rfl) e⟩, st⟩
theorem HOk.lt (x : HOk P w H h) (e : H a = some o) : a < h.objs.size := (x a o e).lt
theorem HOk.fresh (x : HOk P w H h) (e : h.objs.size ≤ a) : H a = none := by
  cases q : H a with
  | none => rfl
  | some u => exact absurd (Nat.lt_of_lt_of_le (x.lt q) e) (Nat.lt_irrefl _)
theorem HOk.kept (x : HOk P w H h) (k : ∀ b u, h.get? b = some u → h'.get? b = some u) : HOk P w H h' := fun a o e =>
  (x a o e).stay (fun b u _ q => k b u q) (fun _ q => q) fun _ _ q => q
theorem HOk.laid (x : HOk P w H h) (k : ∀ b u, h.get? b = some u → h'.get? b = some u) (hp : h.objs.size ≤ a) (new : ObjOk P w (upd H a o) h' a o) : HOk P w (upd H a o) h' := fun b u e => by
  have hn := x.fresh hp
  by_cases hb : b = a
  · subst hb; rw [upd_same] at e; cases e; exact new
  · rw [upd_ne hb] at e
    exact (x b u e).stay (fun c v _ q => k c v q) (fun c q => by rw [upd_ne (ne_of_none q hn)]; exact q) fun c xs q => by rw [upd_ne (ne_of_none q hn)]; exact q
end
def Rd (H : Hp) (a : Addr) (u : HO) : Prop := H a = some u ∨ ∃ o, H a = some (.frz o u)
theorem Rd.of {H : Hp} {a : Addr} {u : HO} (h : H a = some u) : Rd H a u := .inl h
theorem Rd.ok {P : Program} {w : World} {H : Hp} {h : Heap} {a : Addr} {u : HO} (r : Rd H a u) (x : HOk P w H h) : ObjOk P w H h a u := by
  rcases r with r | ⟨o, r⟩
  · exact x a u r
  · obtain ⟨_, q⟩ := x a _ r
    exact q
def Mut : Option HO → Prop
  | some (.lst _) => True
  | some (.dK _) => True
  | some (.dT _) => True
  | some (.set _ _) => True
  | some (.ins _ _ _) => True
  | some (.ext _) => True
  | _ => False
section
variable {P : Program} {w : World} {H : Hp} {h h' : Heap} {x e : Addr} {o' : HO}
theorem HOk.write (ok : HOk P w H h) (mu : Mut (H x)) (he : e = x ∨ H e = some (.own x)) (k : ∀ b u, b ≠ e → h.get? b = some u → h'.get? b = some u) (heo : ∃ u, h'.get? e = some u)
    (new : ObjOk P w (upd H x o') h' x o') : HOk P w (upd H x o') h' := fun b u q => by
  have nown : ∀ c y, H c = some (.own y) → c ≠ x := fun c y r z => by subst z; rw [r] at mu; exact mu
  have ntup : ∀ c xs, H c = some (.tup xs) → c ≠ x := fun c xs r z => by subst z; rw [r] at mu; exact mu
  by_cases hb : b = x
  · subst hb; rw [upd_same] at q; cases q; exact new
  · rw [upd_ne hb] at q
    by_cases hbe : b = e
    · have q' : H b = some (.own x) := by
        rcases he with z | z
        · exact absurd (hbe.trans z) hb
        · rw [hbe]; exact z
      rw [q] at q'; cases q'
      obtain ⟨v, hv⟩ := heo
      exact ⟨v, by rw [hbe]; exact hv⟩
    · refine (ok b u q).stay (fun c v hc r => k c v ?_ r) (fun c r => by rw [upd_ne (nown c b r)]; exact r) fun c xs r => by rw [upd_ne (ntup c xs r)]; exact r
      rcases hc with rfl | hc
      · exact hbe
      · rintro rfl
        rcases he with z | z
        · exact nown c b hc z
        · rw [hc] at z; cases z; exact hb rfl
end
structure Un (fs ex : List Addr) (H H' : Hp) (h h' : Heap) : Prop where
  keep : ∀ b o, h.get? b = some o → H b = none → b ∉ fs → b ∉ ex → h'.get? b = some o
  slot : ∀ b o, h.get? b = some o → H b = none → b ∈ fs → b ∉ ex → ∃ sl, h'.get? b = some { o with slots := sl }
  free : ∀ b o, h.get? b = some o → H b = none → b ∉ ex → H' b = none
  there : ∀ b o, h.get? b = some o → b ∉ ex → ∃ o', h'.get? b = some o'
  tups : ∀ b xs, H b = some (.tup xs) → H' b = some (.tup xs)
  frzs : ∀ b o u, H b = some (.frz o u) → H' b = some (.frz o u)
  tbls : ∀ b ps, H b = some (.tbl ps) → ∃ more, H' b = some (.tbl (ps ++ more))
section
variable {fs fs' ex ex' : List Addr} {H H1 H2 : Hp} {h h1 h2 h' : Heap} {a x e : Addr} {o : HO}
theorem Un.any (u : Un fs ex H H1 h h1) {b : Addr} {ob : Obj} (q : h.get? b = some ob) (n : H b = none) (hx : b ∉ ex) : ∃ sl, h1.get? b = some { ob with slots := sl } := by
  by_cases hb : b ∈ fs
  · exact u.slot b ob q n hb hx
  · exact ⟨ob.slots, u.keep b ob q n hb hx⟩
theorem Un.trans (a : Un fs ex H H1 h h1) (b : Un fs ex H1 H2 h1 h2) : Un fs ex H H2 h h2 where
  keep := fun c ob q n hc hx => b.keep c ob (a.keep c ob q n hc hx) (a.free c ob q n hx) hc hx
  slot := fun c ob q n hc hx => by
    obtain ⟨sl, e1⟩ := a.slot c ob q n hc hx
    obtain ⟨sl', e2⟩ := b.slot c _ e1 (a.free c ob q n hx) hc hx
    exact ⟨sl', e2⟩
  free := fun c ob q n hx => by
    obtain ⟨o', e1⟩ := a.there c ob q hx
    exact b.free c o' e1 (a.free c ob q n hx) hx
  there := fun c ob q hx => by
    obtain ⟨o', e1⟩ := a.there c ob q hx
    exact b.there c o' e1 hx
  tups := fun c xs q => b.tups c xs (a.tups c xs q)
  frzs := fun c ob xs q => b.frzs c ob xs (a.frzs c ob xs q)
  tbls := fun c ps q => by
    obtain ⟨m1, e1⟩ := a.tbls c ps q
    obtain ⟨m2, e2⟩ := b.tbls c _ e1
    exact ⟨m1 ++ m2, by rw [e2, Array.append_assoc]⟩
theorem Un.kept (k : ∀ b u, h.get? b = some u → h'.get? b = some u) : Un fs ex H H h h' :=
  ⟨fun b ob q _ _ _ => k b ob q, fun b ob q _ _ _ => ⟨ob.slots, k b ob q⟩, fun _ _ _ n _ => n, fun b ob q _ => ⟨ob, k b ob q⟩, fun _ _ q => q, fun _ _ _ q => q, fun _ ps q => ⟨#[], by rw [q]; simp⟩⟩
theorem Un.refl : Un fs ex H H h h := Un.kept fun _ _ q => q
theorem Un.laid (k : ∀ b u, h.get? b = some u → h'.get? b = some u) (hp : h.objs.size ≤ a) (hn : H a = none) : Un fs ex H (upd H a o) h h' where
  keep := fun b u q _ _ _ => k b u q
  slot := fun b u q _ _ _ => ⟨u.slots, k b u q⟩
  free := fun b u q n _ => by rw [upd_ne (Nat.ne_of_lt (Nat.lt_of_lt_of_le (Heap.lt_size q) hp))]; exact n
  there := fun b u q _ => ⟨u, k b u q⟩
  tups := fun b xs q => by rw [upd_ne (ne_of_none q hn)]; exact q
  frzs := fun b u xs q => by rw [upd_ne (ne_of_none q hn)]; exact q
  tbls := fun b ps q => ⟨#[], by rw [upd_ne (ne_of_none q hn), q]; simp⟩
theorem Un.write (mu : Mut (H x)) (he : e = x ∨ H e = some (.own x)) (k : ∀ b u, b ≠ e → h.get? b = some u → h'.get? b = some u) (heo : ∃ u, h'.get? e = some u) : Un fs ex H (upd H x o) h h' := by
  have hx : ∀ b, H b = none → b ≠ x := fun b n z => by subst z; rw [n] at mu; exact mu
  have hb : ∀ b, H b = none → b ≠ e := fun b n z => by
    subst z
    rcases he with r | r
    · exact hx b n r
    · rw [n] at r; cases r
  have hm : ∀ b u, H b = some u → ¬ Mut (some u) → b ≠ x := fun b u q nm z => by subst z; rw [q] at mu; exact nm mu
  refine ⟨fun b u q n _ _ => k b u (hb b n) q, fun b u q n _ _ => ⟨u.slots, k b u (hb b n) q⟩, fun b u q n _ => by rw [upd_ne (hx b n)]; exact n, fun b u q _ => ?_,
    fun b xs q => by rw [upd_ne (hm b _ q fun z => z)]; exact q, fun b u xs q => by rw [upd_ne (hm b _ q fun z => z)]; exact q, fun b ps q => ⟨#[], by rw [upd_ne (hm b _ q fun z => z), q]; simp⟩⟩
  by_cases hbe : b = e
  · subst hbe; exact heo
  · exact ⟨u, k b u hbe q⟩
theorem Un.mono (u : Un fs ex H H1 h h1) (hs : ∀ b ∈ fs, b ∈ fs') (hx : ∀ b ∈ ex, b ∈ ex') : Un fs' ex' H H1 h h1 :=
  ⟨fun b ob q n hb he => u.keep b ob q n (fun z => hb (hs b z)) fun z => he (hx b z), fun _ _ q n _ he => u.any q n fun z => he (hx _ z), fun b ob q n he => u.free b ob q n fun z => he (hx b z), fun b ob q he => u.there b ob q fun z => he (hx b z), u.tups, u.frzs, u.tbls⟩
end
def trk (h : Heap) (H : Hp) : List Addr := (List.range h.objs.size).filter fun a => (H a).isSome
def hidT (h : Heap) (H : Hp) : Heap := PySem.W.hideAll h (trk h H)
theorem hidT_size (h : Heap) (H : Hp) : (hidT h H).objs.size = h.objs.size := PySem.W.hideAll_size _ _
theorem hidT_get {h : Heap} {H : Hp} {b : Addr} {o : Obj} (e : h.get? b = some o) (n : H b = none) : (hidT h H).get? b = some o :=
  PySem.W.hideAll_get _ e fun hm => by
    have q : (H b).isSome = true := (List.mem_filter.mp hm).2
    rw [n] at q; simp at q
theorem of_hidT {h : Heap} {H : Hp} {b : Addr} {o : Obj} (e : (hidT h H).get? b = some o) : h.get? b = some o ∧ H b = none := by
  have e' : h.get? b = some o := PySem.W.of_hideAll (trk h H) e
  refine ⟨e', ?_⟩
  cases q : H b with
  | none => rfl
  | some x =>
    have hm : b ∈ trk h H := List.mem_filter.mpr ⟨List.mem_range.mpr (Heap.lt_size e'), by simp [q]⟩
    have z : (hidT h H).get? b = none := PySem.W.hideAll_none (trk h H) hm
    rw [z] at e; cases e

def allNews (g h : Heap) (L : Addr) : List (Addr × Obj) := (List.range h.objs.size).filterMap fun a => if a = L ∨ (g.get? a).isSome = true then none else (h.get? a).map fun o => (a, o)
def rest (g h : Heap) (L d : Addr) : List (Addr × Obj) := (allNews g h L).filter fun p => decide (p.1 ≠ d)
end L2
namespace L2
open PySem PySem.Spec PyProof.Rows
structure Mod (K : PySem.W.Frag) (mg : Str → Option Value) (base : Heap) : Prop where
  kin : K.In base
  glob : base.Ns mainGlobals mg
  blt : ∃ mb, base.Ns builtinsNs mb ∧ ∀ x : Str, x ≠ "__name__" → mb x = bootBuiltins x
  nolimit : base.NoLimit

structure Cx where
  prog : Program
  w : World
  K : PySem.W.Frag
  mg : Str → Option Value
  base : Heap
  A : Around
  N : List Str
  s_0 : Shared
  H_0 : Hp
  env : Env
  outer : List Env
  stack : List Env
  ex : List Addr
  fn : Str → Bool
  calm : Bool
  pn : List (Addr × Obj)
  xe : Value → Shared → Prop
def frs (l : List Env) : List Addr := l.filterMap (·.frame)
abbrev Cx.fs (X : Cx) : List Addr := frs X.outer

def Vis (sc : Scope) (x : Str) : Prop := sc.names.lookup x = some .local ∨ sc.names.lookup x = some .cell ∨ sc.names.lookup x = some .free
def Loc (sc : Scope) (x : Str) : Prop := sc.names.lookup x = some .local ∨ sc.names.lookup x = some .cell
def Look (env : Env) (h : Heap) (m : Str → Option Value) (x : Str) (u : Value) : Prop :=
  (env.kindOf x = some .local ∧ m x = some u) ∨ ((env.kindOf x = some .cell ∨ env.kindOf x = some .free) ∧ ∃ c, env.cells.lookup x = some c ∧ h.IsCell c (some u))

structure Cx.Ok (X : Cx) : Prop where
  mod : Mod X.K X.mg X.base
  kind : X.env.scope.kind = .function
  glob : X.env.globals = mainGlobals
  blt : X.env.builtins = builtinsNs
  above : X.s_0.heap.objs.size ≤ X.env.locals
  inj : ∀ x y c, X.env.cells.lookup x = some c → X.env.cells.lookup y = some c → x = y
  has : ∀ x, (X.env.kindOf x = some .cell ∨ X.env.kindOf x = some .free) → ∃ c, X.env.cells.lookup x = some c
  cab : ∀ x c, X.fn x = true → X.env.cells.lookup x = some c → X.s_0.heap.objs.size ≤ c
  hd : X.calm = true → X.A.handled = none
  frames : X.A.frames = some X.stack
  stk : X.stack = X.outer ∨ (X.stack = X.env :: X.outer ∧ X.env.frame = some X.env.locals)
  exf : ∀ b ∈ X.ex, b ≠ X.env.locals ∧ ∀ x c, X.env.cells.lookup x = some c → c ≠ b
  bs : ∀ b o, X.base.get? b = some o → X.s_0.heap.get? b = some o ∧ X.H_0 b = none
  bsz : X.base.objs.size ≤ X.s_0.heap.objs.size
  noex : ∀ b o, X.base.get? b = some o → b ∉ X.ex
  exfs : ∀ b ∈ X.ex, b ∉ X.fs
  funs : X.s_0.heap.FunFrames X.base X.outer
  frf : ∀ b ∈ X.fs, X.H_0 b = none

structure Inv (X : Cx) (pins : List (Addr × Obj)) (σ : List (Option V)) (H : Hp) (s : Shared) : Prop where
  ok : X.Ok
  os : s.os = X.s_0.os
  bare : AllBare s.gens
  base : Un X.fs X.ex X.H_0 H X.s_0.heap s.heap
  loc : ∃ m, s.heap.Ns X.env.locals m ∧ ∀ (i : Nat) (x : Str) (v : V), X.N[i]? = some x → σ[i]? = some (some v) → Vis X.env.scope x → ∃ u, RelV v u ∧ Look X.env s.heap m x u
  cell : ∀ x c, X.env.cells.lookup x = some c → ∃ v, s.heap.IsCell c v
  free : H X.env.locals = none
  freeC : ∀ x c, X.env.cells.lookup x = some c → H c = none
  pin : ∀ p ∈ X.pn ++ pins, s.heap.get? p.1 = some p.2 ∧ H p.1 = none ∧ p.1 ≠ X.env.locals ∧ p.1 ∉ X.fs ∧ ∀ v, p.2.data ≠ .cell v
  hok : HOk X.prog X.w H s.heap
  len : σ.length = X.N.length

section
variable {X : Cx} {pins : List (Addr × Obj)} {σ : List (Option V)} {H H' : Hp} {s : Shared} {h' : Heap}
theorem Cx.Ok.nofr (ok : X.Ok) {b : Addr} {o : Obj} (e : X.base.get? b = some o) : b ∉ X.fs := fun hb => by
  have := (ok.funs.mem hb).1
  rw [e] at this; cases this
theorem Inv.bs (I : Inv X pins σ H s) : ∀ b o, X.base.get? b = some o → s.heap.get? b = some o ∧ H b = none := fun b o e =>
  ⟨I.base.keep b o (I.ok.bs b o e).1 (I.ok.bs b o e).2 (I.ok.nofr e) (I.ok.noex b o e), I.base.free b o (I.ok.bs b o e).1 (I.ok.bs b o e).2 (I.ok.noex b o e)⟩
theorem Inv.bk (I : Inv X pins σ H s) : ∀ b o, X.base.get? b = some o → s.heap.get? b = some o := fun b o e => (I.bs b o e).1
theorem Inv.mod (I : Inv X pins σ H s) : Mod X.K X.mg X.base := I.ok.mod
theorem Inv.kIn (I : Inv X pins σ H s) : X.K.In s.heap := I.ok.mod.kin.keeps I.bk
theorem Inv.nolimit (I : Inv X pins σ H s) : s.heap.NoLimit := I.ok.mod.nolimit.keeps I.bk
theorem Inv.lt (I : Inv X pins σ H s) : X.env.locals < s.heap.objs.size := let ⟨_, hn, _⟩ := I.loc; hn.lt
theorem Inv.sz (I : Inv X pins σ H s) : X.s_0.heap.objs.size ≤ s.heap.objs.size := Nat.le_trans I.ok.above (Nat.le_of_lt I.lt)
theorem Inv.cne (I : Inv X pins σ H s) : ∀ x c, X.env.cells.lookup x = some c → c ≠ X.env.locals := fun x c e z => by
  obtain ⟨v, o, ho, hd⟩ := I.cell x c e
  obtain ⟨m, ⟨o', es, ep, ho', hd', _⟩, _⟩ := I.loc
  rw [z, ho'] at ho; cases ho; rw [hd'] at hd; cases hd
theorem Inv.funs (I : Inv X pins σ H s) : s.heap.FunFrames X.base X.outer := by
  have all : ∀ (l : List Env), (∀ b ∈ frs l, b ∈ X.fs) → X.s_0.heap.FunFrames X.base l → s.heap.FunFrames X.base l := by
    intro l
    induction l with
    | nil => intro _ _; trivial
    | cons env r ih =>
      intro hs hl
      obtain ⟨hk, ⟨L, o, hf, hn, ho, hd⟩, hr⟩ := hl
      have hL : L ∈ X.fs := hs L (by unfold frs; rw [List.filterMap_cons, hf]; exact List.mem_cons_self)
      obtain ⟨sl, e⟩ := I.base.slot L o ho (I.ok.frf L hL) hL fun z => I.ok.exfs L z hL
      exact ⟨hk, ⟨L, _, hf, hn, e, hd⟩, ih (fun b hb => hs b (by unfold frs; rw [List.filterMap_cons, hf]; exact List.mem_cons_of_mem _ hb)) hr⟩
  exact all X.outer (fun _ hb => hb) I.ok.funs

theorem Inv.stack (I : Inv X pins σ H s) : s.heap.FunFrames X.base X.stack := by
  rcases I.ok.stk with e | ⟨e, hf⟩
  · rw [e]; exact I.funs
  · rw [e]
    obtain ⟨m, hn, _⟩ := I.loc
    refine .cons (by rw [I.ok.kind]; decide) hf hn ?_ I.funs
    exact Heap.get?_none_of_le (Nat.le_trans I.ok.bsz I.ok.above)
theorem Inv.stkSub (I : Inv X pins σ H s) : ∀ b ∈ frs X.stack, b ∈ X.env.locals :: X.fs := fun b hb => by
  rcases I.ok.stk with e | ⟨e, hf⟩
  · rw [e] at hb; exact List.mem_cons_of_mem _ hb
  · rw [e] at hb
    unfold frs at hb
    rw [List.filterMap_cons, hf] at hb
    exact hb
theorem Inv.stkFree (I : Inv X pins σ H s) : ∀ b ∈ frs X.stack, H b = none := fun b hb => by
  rcases List.mem_cons.mp (I.stkSub b hb) with e | hb
  · rw [e]; exact I.free
  · obtain ⟨_, o, ho, _⟩ := I.ok.funs.mem hb
    exact I.base.free b o ho (I.ok.frf b hb) fun z => I.ok.exfs b z hb

theorem Inv.step {g' : Array GenState} {t' : Nat} {d' : Drawn} {ch : List Addr} (I : Inv X pins σ H s)
    (hch : ∀ b ∈ ch, (b ∈ X.ex ∨ X.s_0.heap.objs.size ≤ b) ∧ b ≠ X.env.locals ∧ (∀ x c, X.env.cells.lookup x = some c → c ≠ b) ∧ ∀ p ∈ X.pn ++ pins, p.1 ≠ b)
    (keep : ∀ b o, b ≠ X.env.locals → b ∉ X.fs → b ∉ ch → s.heap.get? b = some o → H b = none → h'.get? b = some o)
    (slot : ∀ b o, b ≠ X.env.locals → b ∈ X.fs → b ∉ ch → s.heap.get? b = some o → H b = none → ∃ sl, h'.get? b = some { o with slots := sl }) (free : ∀ b o, b ∉ ch → s.heap.get? b = some o → H b = none → H' b = none)
    (there : ∀ b o, b ∉ ch → s.heap.get? b = some o → ∃ o', h'.get? b = some o')
    (tups : ∀ b xs, H b = some (.tup xs) → H' b = some (.tup xs)) (frzs : ∀ b o u, H b = some (.frz o u) → H' b = some (.frz o u)) (tbls : ∀ b ps, H b = some (.tbl ps) → ∃ more, H' b = some (.tbl (ps ++ more)))
    (ns : ∀ m, s.heap.Ns X.env.locals m → h'.Ns X.env.locals m) (hok : HOk X.prog X.w H' h') (hg : AllBare g') :
    Inv X pins σ H' { s with heap := h', gens := g', drawn := d', toks := t' } := by
  have neL : ∀ b o, X.s_0.heap.get? b = some o → b ≠ X.env.locals := fun b o e => Nat.ne_of_lt (Nat.lt_of_lt_of_le (Heap.lt_size e) I.ok.above)
  have neC : ∀ b o, X.s_0.heap.get? b = some o → b ∉ X.ex → b ∉ ch := fun b o e hx hb => by
    rcases (hch b hb).1 with z | z
    · exact hx z
    · exact absurd (Nat.lt_of_lt_of_le (Heap.lt_size e) z) (Nat.lt_irrefl _)
  have cellK : ∀ x c, X.env.cells.lookup x = some c → ∀ v, s.heap.IsCell c v → h'.IsCell c v := fun x c e v ⟨o, ho, hd⟩ => by
    have nch : c ∉ ch := fun z => (hch c z).2.2.1 x c e rfl
    by_cases hc : c ∈ X.fs
    · obtain ⟨sl, q⟩ := slot c o (I.cne x c e) hc nch ho (I.freeC x c e)
      exact ⟨_, q, hd⟩
    · exact ⟨o, keep c o (I.cne x c e) hc nch ho (I.freeC x c e), hd⟩
  refine ⟨I.ok, I.os, hg, ⟨fun b o e n hb hx => ?_, fun b o e n hb hx => ?_, fun b o e n hx => ?_, fun b o e hx => ?_, fun b xs e => tups b xs (I.base.tups b xs e), fun b o xs e => frzs b o xs (I.base.frzs b o xs e), fun b ps e => ?_⟩, ?_, fun x c e => ?_, ?_, fun x c e => ?_, fun p hp => ?_, hok, I.len⟩
  · exact keep b o (neL b o e) hb (neC b o e hx) (I.base.keep b o e n hb hx) (I.base.free b o e n hx)
  · obtain ⟨sl, e1⟩ := I.base.slot b o e n hb hx
    obtain ⟨sl', e2⟩ := slot b _ (neL b o e) hb (neC b o e hx) e1 (I.base.free b o e n hx)
    exact ⟨sl', e2⟩
  · obtain ⟨o', e1⟩ := I.base.there b o e hx
    exact free b o' (neC b o e hx) e1 (I.base.free b o e n hx)
  · obtain ⟨o', e1⟩ := I.base.there b o e hx
    exact there b o' (neC b o e hx) e1
  · obtain ⟨m1, e1⟩ := I.base.tbls b ps e
    obtain ⟨m2, e2⟩ := tbls b _ e1
    exact ⟨m1 ++ m2, by rw [e2, Array.append_assoc]⟩
  · obtain ⟨m, hn, hl⟩ := I.loc
    refine ⟨m, ns m hn, fun i x v e1 e2 e3 => ?_⟩
    obtain ⟨u, r, l⟩ := hl i x v e1 e2 e3
    refine ⟨u, r, ?_⟩
    rcases l with l | ⟨k, c, e, z⟩
    · exact .inl l
    · exact .inr ⟨k, c, e, cellK x c e _ z⟩
  · obtain ⟨v, z⟩ := I.cell x c e
    exact ⟨v, cellK x c e v z⟩
  · obtain ⟨m, ⟨o, _, _, ho, _⟩, _⟩ := I.loc
    exact free _ o (fun z => (hch _ z).2.1 rfl) ho I.free
  · obtain ⟨v, o, ho, hd⟩ := I.cell x c e
    exact free c o (fun z => (hch c z).2.2.1 x c e rfl) ho (I.freeC x c e)
  · obtain ⟨e, n, ne, nf, d⟩ := I.pin p hp
    have nch : p.1 ∉ ch := fun z => (hch p.1 z).2.2.2 p hp rfl
    exact ⟨keep p.1 p.2 ne nf nch e n, free p.1 p.2 nch e n, ne, nf, d⟩
theorem Inv.un {t' : Nat} (I : Inv X pins σ H s) (u : Un X.fs [] H H' s.heap h') (hok : HOk X.prog X.w H' h') : Inv X pins σ H' { s with heap := h', toks := t' } := by
  obtain ⟨m, ⟨o, es, ep, ho, r⟩, _⟩ := id I.loc
  obtain ⟨sl, hL⟩ := u.any ho I.free (by simp)
  exact I.step (g' := s.gens) (d' := s.drawn) (ch := []) (fun _ z => nomatch z) (fun b o _ hb _ e n => u.keep b o e n hb (by simp)) (fun b o _ hb _ e n => u.slot b o e n hb (by simp)) (fun b o _ e n => u.free b o e n (by simp)) (fun b o _ e => u.there b o e (by simp)) u.tups u.frzs u.tbls (fun m' hm => by
    obtain ⟨o', es', ep', ho', r'⟩ := hm
    rw [ho] at ho'; cases ho'
    exact ⟨_, es', ep', hL, r'⟩) hok I.bare
theorem Inv.call {g' : Array GenState} {t' : Nat} {d' : Drawn} {ch : List Addr} (I : Inv X pins σ H s) (u : Un (frs X.stack) ch H H' s.heap h') (hok : HOk X.prog X.w H' h') (hg : AllBare g')
    (hch : ∀ b ∈ ch, (b ∈ X.ex ∨ X.s_0.heap.objs.size ≤ b) ∧ b ≠ X.env.locals ∧ (∀ x c, X.env.cells.lookup x = some c → c ≠ b) ∧ ∀ p ∈ X.pn ++ pins, p.1 ≠ b) :
    Inv X pins σ H' { s with heap := h', gens := g', drawn := d', toks := t' } := by
  obtain ⟨m, ⟨o, es, ep, ho, r⟩, _⟩ := id I.loc
  obtain ⟨sl, hL⟩ := u.any ho I.free fun z => (hch _ z).2.1 rfl
  exact I.step (ch := ch) hch (fun b o hL hb hc e n => u.keep b o e n (fun z => (List.mem_cons.mp (I.stkSub b z)).elim hL hb) hc) (fun b o _ _ hc e n => u.any e n hc) (fun b o hc e n => u.free b o e n hc) (fun b o hc e => u.there b o e hc) u.tups u.frzs u.tbls (fun m' hm => by
    obtain ⟨o', es', ep', ho', r'⟩ := hm
    rw [ho] at ho'; cases ho'
    exact ⟨_, es', ep', hL, r'⟩) hok hg
theorem Inv.tok (I : Inv X pins σ H s) (t : Nat) : Inv X pins σ H { s with toks := t } := I.un (h' := s.heap) (t' := t) Un.refl I.hok
theorem Inv.kept {t' : Nat} (I : Inv X pins σ H s) (k : ∀ b u, s.heap.get? b = some u → h'.get? b = some u) : Inv X pins σ H { s with heap := h', toks := t' } := I.un (Un.kept k) (I.hok.kept k)
theorem Inv.laid {a : Addr} {o : HO} {t' : Nat} (I : Inv X pins σ H s) (k : ∀ b u, s.heap.get? b = some u → h'.get? b = some u) (hp : s.heap.objs.size ≤ a) (new : ObjOk X.prog X.w (upd H a o) h' a o) :
    Inv X pins σ (upd H a o) { s with heap := h', toks := t' } := I.un (Un.laid k hp (I.hok.fresh hp)) (I.hok.laid k hp new)
theorem Inv.write {x e : Addr} {o : HO} {t' : Nat} (I : Inv X pins σ H s) (mu : Mut (H x)) (he : e = x ∨ H e = some (.own x)) (k : ∀ b u, b ≠ e → s.heap.get? b = some u → h'.get? b = some u) (heo : ∃ u, h'.get? e = some u)
    (new : ObjOk X.prog X.w (upd H x o) h' x o) : Inv X pins σ (upd H x o) { s with heap := h', toks := t' } := I.un (Un.write mu he k heo) (I.hok.write mu he k heo new)
theorem nodup_ix {N : List Str} (hN : N.Nodup) {i j : Nat} {x : Str} (a : N[i]? = some x) (b : N[j]? = some x) : i = j := by
  obtain ⟨h1, e1⟩ := List.getElem?_eq_some_iff.mp a
  obtain ⟨h2, e2⟩ := List.getElem?_eq_some_iff.mp b
  exact (List.getElem_inj hN).mp (e1.trans e2.symm)

theorem store_ok2 {M : Model} {A : Around} {E : Value → Shared → Prop} {i : Nat} {x : Str} {v : V} {u : Value} {Q : Unit → Shared → Prop} (I : Inv X pins σ H s) (hN : X.N.Nodup) (hi : X.N[i]? = some x) (hx : Loc X.env.scope x) (r : RelV v u)
    (h : ∀ s', Inv X pins (σ.set i (some v)) H s' → (∃ a, Heap.SameBut a s.heap s'.heap ∧ (a = X.env.locals ∨ X.env.cells.lookup x = some a)) → Q () s') (hf : X.fn x = true ∨ X.env.scope.names.lookup x = some .local := by first | exact .inl rfl | exact .inr rfl | assumption) : wpAny M A (storeName X.env x u) Q E s := by
  obtain ⟨m, hn, hl⟩ := id I.loc
  have hcls : (X.env.scope.kind == .class || (X.env.scope.kind == .module && X.env.locals != X.env.globals)) = false := by rw [I.ok.kind]; rfl
  have hiσ : i < σ.length := by rw [I.len]; exact (List.getElem?_eq_some_iff.mp hi).1
  have cne := I.cne
  have tracked : ∀ {a : Addr} {h' : Heap}, (∃ o, s.heap.get? a = some o ∧ H a = none) → Heap.SameBut a s.heap h' → HOk X.prog X.w H h' := fun {a h'} ha hs b ob e => by
    obtain ⟨_, _, hfree⟩ := ha
    refine (I.hok b ob e).stay (fun c w' hc q => (hs.2 c ?_).trans q) (fun _ q => q) fun _ _ q => q
    rintro rfl
    rcases hc with rfl | hc
    · rw [hfree] at e; cases e
    · rw [hfree] at hc; cases hc
  rcases hx with hk | hk
  · refine wpAny_storeName_local hk hn (fun h' hn' hs => ?_) hcls
    obtain ⟨oL, _, _, hoL, _⟩ := id hn
    refine h _ ⟨I.ok, I.os, I.bare, ⟨fun b o e n hb hx => ?_, fun b o e n hb hx => ?_, I.base.free, fun b o e hx => ?_, I.base.tups, I.base.frzs, I.base.tbls⟩, ⟨_, hn', fun j y v' e1 e2 e3 => ?_⟩, fun y c e => ?_, I.free, I.freeC, fun p hp => ?_, tracked ⟨oL, hoL, I.free⟩ hs, by simpa using I.len⟩ ⟨_, hs, .inl rfl⟩
    · exact (hs.2 b (Nat.ne_of_lt (Nat.lt_of_lt_of_le (Heap.lt_size e) I.ok.above))).trans (I.base.keep b o e n hb hx)
    · obtain ⟨sl, e1⟩ := I.base.slot b o e n hb hx
      exact ⟨sl, (hs.2 b (Nat.ne_of_lt (Nat.lt_of_lt_of_le (Heap.lt_size e) I.ok.above))).trans e1⟩
    · obtain ⟨o', e1⟩ := I.base.there b o e hx
      exact ⟨o', (hs.2 b (Nat.ne_of_lt (Nat.lt_of_lt_of_le (Heap.lt_size e) I.ok.above))).trans e1⟩
    · by_cases hj : j = i
      · subst hj
        rw [hi] at e1; cases e1
        rw [List.getElem?_set_self hiσ] at e2
        cases e2
        exact ⟨u, r, .inl ⟨hk, by simp⟩⟩
      · rw [List.getElem?_set_ne (Ne.symm hj)] at e2
        obtain ⟨u', r', q⟩ := hl j y v' e1 e2 e3
        refine ⟨u', r', ?_⟩
        rcases q with ⟨k, e⟩ | ⟨k, c, e, z⟩
        · refine .inl ⟨k, ?_⟩
          have : y ≠ x := fun e => hj (nodup_ix hN e1 (e ▸ hi))
          simp [this, e]
        · exact .inr ⟨k, c, e, z.sameBut hs (cne y c e)⟩
    · obtain ⟨w', z⟩ := I.cell y c e
      exact ⟨w', z.sameBut hs (cne y c e)⟩
    · obtain ⟨e, n, ne, nf, d⟩ := I.pin p hp
      exact ⟨(hs.2 p.1 ne).trans e, n, ne, nf, d⟩
  · have hfn : X.fn x = true := by
      rcases hf with z | z
      · exact z
      · rw [z] at hk; cases hk
    obtain ⟨c, hc⟩ := I.ok.has x (.inl hk)
    obtain ⟨w', z⟩ := I.cell x c hc
    refine wpAny_storeName_cell I.ok.kind hk hc z (fun h' hc' hs => ?_)
    obtain ⟨oc, hoc, hocd⟩ := id z
    refine h { s with heap := h' } ⟨I.ok, I.os, I.bare, ⟨fun b o e n hb hx => ?_, fun b o e n hb hx => ?_, I.base.free, fun b o e hx => ?_, I.base.tups, I.base.frzs, I.base.tbls⟩, ⟨m, hn.sameBut hs (Ne.symm (cne x c hc)), fun j y v' e1 e2 e3 => ?_⟩, fun y c' e => ?_, I.free, I.freeC, fun p hp => ?_, tracked ⟨oc, hoc, I.freeC x c hc⟩ hs, by simpa using I.len⟩ ⟨c, hs, .inr hc⟩
    · exact (hs.2 b (Nat.ne_of_lt (Nat.lt_of_lt_of_le (Heap.lt_size e) (I.ok.cab x c hfn hc)))).trans (I.base.keep b o e n hb hx)
    · obtain ⟨sl, e1⟩ := I.base.slot b o e n hb hx
      exact ⟨sl, (hs.2 b (Nat.ne_of_lt (Nat.lt_of_lt_of_le (Heap.lt_size e) (I.ok.cab x c hfn hc)))).trans e1⟩
    · obtain ⟨o', e1⟩ := I.base.there b o e hx
      exact ⟨o', (hs.2 b (Nat.ne_of_lt (Nat.lt_of_lt_of_le (Heap.lt_size e) (I.ok.cab x c hfn hc)))).trans e1⟩
    · by_cases hj : j = i
      · subst hj
        rw [hi] at e1; cases e1
        rw [List.getElem?_set_self hiσ] at e2
        cases e2
        exact ⟨u, r, .inr ⟨.inl hk, c, hc, hc'⟩⟩
      · rw [List.getElem?_set_ne (Ne.symm hj)] at e2
        obtain ⟨u', r', q⟩ := hl j y v' e1 e2 e3
        refine ⟨u', r', ?_⟩
        rcases q with q | ⟨k, c', e, z'⟩
        · exact .inl q
        · refine .inr ⟨k, c', e, z'.sameBut hs ?_⟩
          rintro rfl
          exact hj (nodup_ix hN e1 (I.ok.inj _ _ _ e hc ▸ hi))
    · by_cases hcc : c' = c
      · subst hcc; exact ⟨_, hc'⟩
      · obtain ⟨w2, z2⟩ := I.cell y c' e
        exact ⟨w2, z2.sameBut hs hcc⟩
    · obtain ⟨e, n, ne, nf, d⟩ := I.pin p hp
      refine ⟨(hs.2 p.1 ?_).trans e, n, ne, nf, d⟩
      intro q
      rw [q, hoc] at e
      have q' : oc = p.2 := Option.some.inj e
      exact d w' (by rw [← q']; exact hocd)
theorem store_ok {M : Model} {A : Around} {E : Value → Shared → Prop} {i : Nat} {x : Str} {v : V} {u : Value} {Q : Unit → Shared → Prop} (I : Inv X pins σ H s) (hN : X.N.Nodup) (hi : X.N[i]? = some x) (hx : Loc X.env.scope x) (r : RelV v u)
    (h : ∀ s', Inv X pins (σ.set i (some v)) H s' → Q () s') (hf : X.fn x = true ∨ X.env.scope.names.lookup x = some .local := by first | exact .inl rfl | exact .inr rfl | assumption) : wpAny M A (storeName X.env x u) Q E s :=
  store_ok2 I hN hi hx r (fun s' I' _ => h s' I') hf
end
abbrev XK := Value → Option Addr → Hp → Prop
abbrev St := List (Option V)
abbrev VK := V → Hp → Prop
abbrev TE := St → Hp → VK → Prop
abbrev TT := St → Hp → (Bool → Hp → Prop) → Prop
abbrev TA := St → Hp → (List V → Hp → Prop) → Prop
structure Ends where
  nx : St → Hp → Prop
  rt : VK
  bk : St → Hp → Prop := fun _ _ => False
  ct : St → Hp → Prop := fun _ _ => False
abbrev TS := Ends → St → Hp → Prop

def EP (X : Cx) (pins : List (Addr × Obj)) (σ : St) (Q : VK) (u : Value) (s' : Shared) : Prop := ∃ v H', Inv X pins σ H' s' ∧ RelV v u ∧ Q v H'
def TP (X : Cx) (pins : List (Addr × Obj)) (σ : St) (Q : Bool → Hp → Prop) (b : Bool) (s' : Shared) : Prop := ∃ H', Inv X pins σ H' s' ∧ Q b H'
def AP (X : Cx) (pins : List (Addr × Obj)) (σ : St) (Q : List V → Hp → Prop) (us : List Value) (s' : Shared) : Prop := ∃ vs H', Inv X pins σ H' s' ∧ Vals vs us ∧ Q vs H'
def SP (X : Cx) (pins : List (Addr × Obj)) (D : Ends) (f : Flow) (s' : Shared) : Prop :=
  match f with
  | .next => ∃ σ' H', Inv X pins σ' H' s' ∧ D.nx σ' H'
  | .brk => ∃ σ' H', Inv X pins σ' H' s' ∧ D.bk σ' H'
  | .cont => ∃ σ' H', Inv X pins σ' H' s' ∧ D.ct σ' H'
  | .ret u => ∃ v σ' H', Inv X pins σ' H' s' ∧ RelV v u ∧ D.rt v H'

def PE (X : Cx) (e : Expr) (t : TE) : Prop :=
  ∀ (pins : List (Addr × Obj)) (s : Shared) (σ : St) (H : Hp) (Q : VK), Inv X pins σ H s → t σ H Q → wpAny (model X.prog X.w) X.A (eval e X.env) (EP X pins σ Q) X.xe s
def PT (X : Cx) (e : Expr) (t : TT) : Prop :=
  ∀ (pins : List (Addr × Obj)) (s : Shared) (σ : St) (H : Hp) (Q : Bool → Hp → Prop), Inv X pins σ H s → t σ H Q → wpAny (model X.prog X.w) X.A (isTrue e X.env (eval e X.env)) (TP X pins σ Q) X.xe s
def PW (X : Cx) (e : Expr) (t : TT) : Prop :=
  ∀ (whole : Sem Value) (pins : List (Addr × Obj)) (s : Shared) (σ : St) (H : Hp) (Q : Bool → Hp → Prop), Inv X pins σ H s → t σ H Q → wpAny (model X.prog X.w) X.A (isTrue e X.env whole) (TP X pins σ Q) X.xe s
theorem PW.pt {X : Cx} {e : Expr} {t : TT} (h : PW X e t) : PT X e t := h _
def PA (X : Cx) (es : List Expr) (t : TA) : Prop :=
  ∀ (pos : Pos) (pins : List (Addr × Obj)) (s : Shared) (σ : St) (H : Hp) (Q : List V → Hp → Prop), Inv X pins σ H s → t σ H Q → wpAny (model X.prog X.w) X.A (spliced (backTo pos (starEach es X.env))) (AP X pins σ Q) X.xe s
def PS (X : Cx) (st : Stmt) (t : TS) : Prop :=
  ∀ (pins : List (Addr × Obj)) (s : Shared) (σ : St) (H : Hp) (D : Ends), Inv X pins σ H s → t D σ H → wpAny (model X.prog X.w) X.A (exec st X.env) (SP X pins D) X.xe s
def PSs (X : Cx) (st : List Stmt) (t : TS) : Prop :=
  ∀ (pins : List (Addr × Obj)) (s : Shared) (σ : St) (H : Hp) (D : Ends), Inv X pins σ H s → t D σ H → wpAny (model X.prog X.w) X.A (execs st X.env) (SP X pins D) X.xe s
theorem thn {α : Type} {t : Sem α} {Q Q' : α → Shared → Prop} {M : Model} {A : Around} {E : Value → Shared → Prop} {s : Shared} (h : wpAny M A t Q E s) (hQ : ∀ a s, Q a s → Q' a s) : wpAny M A t Q' E s := wpAny_mono h hQ fun _ _ x => x
end L2
namespace L2
open PySem PySem.Spec PyProof.Rows
section
variable {X : Cx}
def tVar (i : Nat) : TE := fun σ H Q => ∃ v, σ[i]? = some (some v) ∧ Q v H
def tC (v : V) : TE := fun _ H Q => Q v H
theorem pe_var {i : Nat} {x : Str} {pos : Pos} (hN : X.N[i]? = some x) (hv : Vis X.env.scope x) (hd : (x == ("__debug__" : Str)) = false := by decide) (hcd : (x == ("__classdict__" : Str)) = false := by decide) : PE X (.Name x pos) (tVar i) := by
  intro pins s σ H Q I h
  obtain ⟨v, e, h⟩ := h
  obtain ⟨m, hn, hl⟩ := I.loc
  obtain ⟨u, r, l⟩ := hl i x v hN e hv
  have fin : EP X pins σ Q u s := ⟨v, H, I, r, h⟩
  rcases l with ⟨hk, hm⟩ | ⟨hk, c, hc, hcell⟩
  · exact wpAny_Name (wpAny_loadName_local I.ok.kind hk hn hm fin) hd
  · rcases hk with hk | hk
    · exact wpAny_Name (wpAny_loadName_cell I.ok.kind hk hc hcell fin) hd
    · exact wpAny_Name (wpAny_loadName_free I.ok.kind hk hc hcell fin hcd) hd
theorem pe_int {i j pos} : PE X (.Constant (.int i) j pos) (tC (.int i)) := fun _ _ _ H _ I h => wpAny_Constant_int ⟨.int i, H, I.tok _, ⟨_, rfl⟩, h⟩
theorem pe_bl {b j pos} : PE X (.Constant (.bool b) j pos) (tC (.bl b)) := fun _ _ _ H _ I h => Constant_bool ⟨.bl b, H, I, rfl, h⟩
def Gl (X : Cx) (x : Str) : Prop := X.env.kindOf x = some .globalImplicit
theorem ld_glob {E : Value → Shared → Prop} {pins : List (Addr × Obj)} {s : Shared} {σ : St} {H : Hp} {x : Str} {u : Value} {pos : Pos} {Q : Value → Shared → Prop} (I : Inv X pins σ H s) (hg : Gl X x) (hm : X.mg x = some u) (h : Q u s)
    (hd : (x == ("__debug__" : Str)) = false := by decide) : wpAny (model X.prog X.w) X.A (eval (.Name x pos) X.env) Q E s :=
  Calls.Name_function_global I.ok.kind hg (Calls.loadGlobal_global (by rw [I.ok.glob]; exact I.mod.glob.keeps I.bk) hm h) hd
theorem ld_blt {E : Value → Shared → Prop} {pins : List (Addr × Obj)} {s : Shared} {σ : St} {H : Hp} {x : Str} {u : Value} {pos : Pos} {Q : Value → Shared → Prop} (I : Inv X pins σ H s) (hg : Gl X x) (hm : X.mg x = none) (hv : bootBuiltins x = some u) (h : Q u s)
    (hn : x ≠ "__name__" := by decide) (hd : (x == ("__debug__" : Str)) = false := by decide) : wpAny (model X.prog X.w) X.A (eval (.Name x pos) X.env) Q E s := by
  obtain ⟨mb, h1, h2⟩ := I.mod.blt
  exact Calls.Name_function_global I.ok.kind hg (Calls.loadGlobal_builtin (by rw [I.ok.glob]; exact I.mod.glob.keeps I.bk) hm (by rw [I.ok.blt]; exact h1.keeps I.bk) ((h2 x hn).trans hv) h) hd
theorem pe_glob {x : Str} {v : V} {u : Value} {pos : Pos} (hg : Gl X x) (hm : X.mg x = some u) (r : RelV v u) (hd : (x == ("__debug__" : Str)) = false := by decide) : PE X (.Name x pos) (tC v) :=
  fun _ _ _ H _ I h => ld_glob I hg hm ⟨v, H, I, r, h⟩ hd
variable {a b : Expr} {ta tb : TE} {pos : Pos}
def tB (t : TE) : TT := fun σ H Q => t σ H fun x H1 => ∃ c, x = .bl c ∧ Q c H1
theorem pt_val {e : Expr} {t : TE} (h : PE X e t) (he : ∀ whole, isTrue e X.env whole = (do let v ← whole; standAt e.pos; holding [v] (truthy v)) := by intro _; rfl) : PT X e (tB t) := by
  intro pins s σ H Q I hw
  refine isTrue_plain (thn (h pins s σ H _ I hw) fun v s1 ⟨x, H1, I1, r1, q1⟩ => ?_) (he _)
  obtain ⟨d, rfl, q⟩ := q1
  cases r1
  exact wpAny_truthy_bool ⟨H1, I1, q⟩

variable {tA tB' : TT} {rest : List Expr}
def tAnd (t u : TT) : TT := fun σ H Q => t σ H fun c H1 => if c = true then u σ H1 Q else Q false H1
def tNot (t : TT) : TT := fun σ H Q => t σ H fun c H1 => Q (!c) H1
theorem pw_and1 (ha : PT X a tA) : PW X (.BoolOp .And [a] pos) tA := by
  intro wh pins s σ H Q I h
  refine isTrue_and (thn (ha pins s σ H Q I h) fun c s1 e => ?_)
  cases c with
  | true => exact isTrue_and_nil e
  | false => exact e
theorem pw_and (ha : PT X a tA) (hb : PW X (.BoolOp .And (b :: rest) pos) tB') : PW X (.BoolOp .And (a :: b :: rest) pos) (tAnd tA tB') := by
  intro wh pins s σ H Q I h
  refine isTrue_and (thn (ha pins s σ H _ I h) fun c s1 ⟨H1, I1, q1⟩ => ?_)
  cases c with
  | true => exact hb wh pins s1 σ H1 Q I1 q1
  | false => exact ⟨H1, I1, q1⟩
theorem pt_not (ha : PT X a tA) : PT X (.UnaryOp .Not a pos) (tNot tA) := by
  intro pins s σ H Q I h
  exact isTrue_not (ha pins s σ H (fun c H1 => Q (!c) H1) I h)
def tAndV (ta tb : TE) : TE := fun σ H Q => ta σ H fun x H1 => ∃ c, x = .bl c ∧ if c = true then tb σ H1 Q else Q (.bl false) H1
theorem pe_one {op} {t : TE} (h : PE X a t) : PE X (.BoolOp op [a] pos) t := fun pins s σ H Q I hw => BoolOp_one (h pins s σ H Q I hw)
theorem pe_and (ha : PE X a ta) (hb : PE X (.BoolOp .And (b :: rest) pos) tb) : PE X (.BoolOp .And (a :: b :: rest) pos) (tAndV ta tb) := by
  intro pins s σ H Q I h
  refine BoolOp_and (thn (ha pins s σ H _ I h) fun v s1 ⟨x, H1, I1, r1, q1⟩ => ?_)
  obtain ⟨c, rfl, q1⟩ := q1
  cases r1
  refine wpAny_truthy_bool ?_
  cases c with
  | true => exact hb pins s1 σ H1 Q I1 q1
  | false => exact ⟨.bl false, H1, I1, rfl, q1⟩
def tIf (t : TT) (ta tb : TE) : TE := fun σ H Q => t σ H fun c H1 => if c = true then ta σ H1 Q else tb σ H1 Q
theorem pe_ifExp {c : Expr} (hc : PT X c tA) (ha : PE X a ta) (hb : PE X b tb) : PE X (.IfExp c a b pos) (tIf tA ta tb) := by
  intro pins s σ H Q I h
  refine wpAny_IfExp (thn (hc pins s σ H _ I h) fun d s1 ⟨H1, I1, q1⟩ => ?_)
  cases d with
  | true => exact ha pins s1 σ H1 Q I1 q1
  | false => exact hb pins s1 σ H1 Q I1 q1
end
end L2
namespace L2
open PySem PySem.Spec PyProof.Rows
def SqL (K : PySem.W.Frag) (H : Hp) (a : Addr) (xs : List V) : Prop :=
  Rd H a (.lst xs) ∨
    ∃ (o : Obj) (its : Array Value) (n : Nat), K.lookup a = some o ∧ o.cls = .type "list" ∧ o.dict = none ∧ o.data = .seq its n ∧ its.size ≤ sizeLine ∧ Vals xs its.toList
def SqT (K : PySem.W.Frag) (H : Hp) (a : Addr) (xs : List V) : Prop :=
  Rd H a (.tup xs) ∨
    ∃ (o : Obj) (its : Array Value) (n : Nat), K.lookup a = some o ∧ o.cls = .type "tuple" ∧ o.data = .seq its n ∧ its.size ≤ sizeLine ∧ Vals xs its.toList
def absV : Value → Option V
  | .none => some .non
  | .bool b => some (.bl b)
  | .int i _ => some (.int i)
  | .str x _ => some (.str x)
  | .bytes b _ => some (.byt b)
  | .float b _ => some (.flt b)
  | .ref a => some (.ref a)
  | .type n => some (.ty n)
  | _ => none
theorem RelV.abs {x : V} {u : Value} (r : RelV x u) : absV u = some x := by
  cases x with
  | non => cases r; rfl
  | bl _ => cases r; rfl
  | int _ => obtain ⟨t, rfl⟩ := r; rfl
  | str _ => obtain ⟨t, rfl⟩ := r; rfl
  | byt _ => obtain ⟨t, rfl⟩ := r; rfl
  | flt _ => obtain ⟨t, rfl⟩ := r; rfl
  | ref _ => cases r; rfl
  | ty _ => cases r; rfl
theorem RelV.inj {x y : V} {u : Value} (r : RelV x u) (q : RelV y u) : x = y := Option.some.inj (r.abs.symm.trans q.abs)
theorem Vals.inj : ∀ {xs ys : List V} {us : List Value}, Vals xs us → Vals ys us → xs = ys
  | _, _, _, .nil, .nil => rfl
  | _, _, _, .cons r t, .cons r' t' => by rw [r.inj r', Vals.inj t t']
section
variable {X : Cx} {pins : List (Addr × Obj)} {σ : St} {H : Hp} {s : Shared} {a : Addr} {xs ys : List V}
theorem SqL.of {K : PySem.W.Frag} (h : H a = some (.lst xs)) : SqL K H a xs := .inl (.inl h)
theorem SqT.of {K : PySem.W.Frag} (h : H a = some (.tup xs)) : SqT K H a xs := .inl (.inl h)
theorem Inv.list (I : Inv X pins σ H s) (h : SqL X.K H a xs) : ∃ its : List Value, Vals xs its ∧ PlainL s.heap a its.toArray ∧ xs.length ≤ sizeLine := by
  rcases h with h | ⟨o, its, n, hk, hc, hd, hs, hz, r⟩
  · obtain ⟨z, its, n, r, e⟩ := h.ok I.hok
    exact ⟨its, r, ⟨_, n, e, rfl, rfl, rfl⟩, z⟩
  · refine ⟨its.toList, r, ⟨o, n, I.kIn a o hk, hc, hd, by simpa using hs⟩, ?_⟩
    have e := r.length
    simp only [Array.length_toList] at e
    omega
theorem Inv.tuple (I : Inv X pins σ H s) (h : SqT X.K H a xs) : ∃ its : List Value, Vals xs its ∧ IsTup s.heap a its.toArray ∧ xs.length ≤ sizeLine := by
  rcases h with h | ⟨o, its, n, hk, hc, hs, hz, r⟩
  · obtain ⟨z, its, r, p⟩ := h.ok I.hok
    exact ⟨its, r, p, z⟩
  · refine ⟨its.toList, r, ⟨o, I.kIn a o hk, hc, n, by simpa using hs⟩, ?_⟩
    have e := r.length
    simp only [Array.length_toList] at e
    omega
end
abbrev Cx.wish (X : Cx) (E : Value → Shared → Prop) : Cx := { X with xe := E }
abbrev Cx.nox (X : Cx) : Cx := X.wish fun _ _ => False
theorem Cx.Ok.wish {X : Cx} (ok : X.Ok) (E : Value → Shared → Prop) : (X.wish E).Ok :=
  ⟨ok.mod, ok.kind, ok.glob, ok.blt, ok.above, ok.inj, ok.has, ok.cab, ok.hd, ok.frames, ok.stk, ok.exf, ok.bs, ok.bsz, ok.noex, ok.exfs, ok.funs, ok.frf⟩
theorem Cx.Ok.unwish {X : Cx} {E : Value → Shared → Prop} (ok : (X.wish E).Ok) : X.Ok :=
  ⟨ok.mod, ok.kind, ok.glob, ok.blt, ok.above, ok.inj, ok.has, ok.cab, ok.hd, ok.frames, ok.stk, ok.exf, ok.bs, ok.bsz, ok.noex, ok.exfs, ok.funs, ok.frf⟩
section
variable {X : Cx} {pins : List (Addr × Obj)} {σ : St} {H : Hp} {s : Shared} {E : Value → Shared → Prop}
theorem Inv.wish (I : Inv X pins σ H s) (E : Value → Shared → Prop) : Inv (X.wish E) pins σ H s := ⟨I.ok.wish E, I.os, I.bare, I.base, I.loc, I.cell, I.free, I.freeC, I.pin, I.hok, I.len⟩
theorem Inv.unwish (I : Inv (X.wish E) pins σ H s) : Inv X pins σ H s := ⟨I.ok.unwish, I.os, I.bare, I.base, I.loc, I.cell, I.free, I.freeC, I.pin, I.hok, I.len⟩
theorem SP.unwish {D : Ends} {f : Flow} {s' : Shared} (h : SP (X.wish E) pins D f s') : SP X pins D f s' := by
  cases f with
  | next => obtain ⟨σ', H', I, q⟩ := h; exact ⟨σ', H', I.unwish, q⟩
  | brk => obtain ⟨σ', H', I, q⟩ := h; exact ⟨σ', H', I.unwish, q⟩
  | cont => obtain ⟨σ', H', I, q⟩ := h; exact ⟨σ', H', I.unwish, q⟩
  | ret u => obtain ⟨v, σ', H', I, r, q⟩ := h; exact ⟨v, σ', H', I.unwish, r, q⟩
theorem PE.nox {e : Expr} {t : TE} (h : PE X.nox e t) : PE X e t := fun pins s σ H Q I hw =>
  wpAny_mono (h pins s σ H Q (I.wish _) hw) (fun _ _ ⟨v, H', I', r, q⟩ => ⟨v, H', I'.unwish, r, q⟩) fun _ _ z => False.elim z
theorem PT.nox {e : Expr} {t : TT} (h : PT X.nox e t) : PT X e t := fun pins s σ H Q I hw =>
  wpAny_mono (h pins s σ H Q (I.wish _) hw) (fun _ _ ⟨H', I', q⟩ => ⟨H', I'.unwish, q⟩) fun _ _ z => False.elim z
theorem PSs.nox {st : List Stmt} {t : TS} (h : PSs X.nox st t) : PSs X st t := fun pins s σ H D I hw =>
  wpAny_mono (h pins s σ H D (I.wish _) hw) (fun _ _ q => q.unwish) fun _ _ z => False.elim z
end
section
variable {X : Cx} {st : Stmt} {rest : List Stmt} {t u : TS} {e : Expr} {te : TE} {pos : Pos}
def tNext : TS := fun D σ H => D.nx σ H
def tSeq (t u : TS) : TS := fun D σ H => t { D with nx := u D } σ H
theorem pss_nil : PSs X [] tNext := fun _ _ σ H _ I h => wpAny_execs_nil ⟨σ, H, I, h⟩
theorem pss_cons (h1 : PS X st t) (h2 : PSs X rest u) : PSs X (st :: rest) (tSeq t u) := by
  intro pins s σ H D I h
  refine wpAny_execs_cons (thn (h1 pins s σ H { D with nx := u D } I h) fun f s1 q => ?_)
  cases f with
  | next =>
    obtain ⟨σ', H', I', q⟩ := q
    exact h2 pins s1 σ' H' D I' q
  | ret v => exact q
  | brk => exact q
  | cont => exact q
theorem pss_one (h1 : PS X st t) : PSs X [st] t := by
  intro pins s σ H D I h
  refine wpAny_execs_cons (thn (h1 pins s σ H D I h) fun f s1 q => ?_)
  cases f with
  | next => exact wpAny_execs_nil q
  | ret v => exact q
  | brk => exact q
  | cont => exact q
theorem Inv.quiet {pins : List (Addr × Obj)} {σ : St} {H : Hp} {s : Shared} (I : Inv X pins σ H s) : interactive X.env = false := by simp [interactive, I.ok.kind]
def tDrop (te : TE) : TS := fun D σ H => te σ H fun _ H1 => D.nx σ H1
theorem ps_expr (he : PE X e te) (hs : swapsWith e none pos.line X.env = pure false := by rfl) : PS X (.Expr e pos) (tDrop te) := by
  intro pins s σ H D I h
  exact wpAny_Expr_any (thn (he pins s σ H _ I h) fun v s1 ⟨x, H1, I1, r1, q1⟩ => ⟨σ, H1, I1, q1⟩) I.quiet hs
def tRet (te : TE) : TS := fun D σ H => te σ H D.rt
theorem ps_ret (he : PE X e te) : PS X (.Return (some e) pos) (tRet te) := by
  intro pins s σ H D I h
  exact wpAny_Return_some (thn (he pins s σ H _ I h) fun v s1 ⟨x, H1, I1, r1, q1⟩ => ⟨x, σ, H1, I1, r1, q1⟩)
def tIfS (c : TT) (t u : TS) : TS := fun D σ H => c σ H fun b H1 => if b = true then t D σ H1 else u D σ H1
theorem ps_if {c : Expr} {a b : List Stmt} {tc : TT} (hc : PT X c tc) (ha : PSs X a t) (hb : PSs X b u) : PS X (.If c a b pos) (tIfS tc t u) := by
  intro pins s σ H D I h
  refine wpAny_If (thn (hc pins s σ H _ I h) fun d s1 ⟨H1, I1, q1⟩ => ?_)
  cases d with
  | true => exact ha pins s1 σ H1 D I1 q1
  | false => exact hb pins s1 σ H1 D I1 q1
end
abbrev TG := V → St → Hp → (St → Hp → Prop) → Prop
abbrev TIp := V → V → Hp → VK → Prop
def PIp (X : Cx) (op : Operator) (t : TIp) : Prop :=
  ∀ (pins : List (Addr × Obj)) (s : Shared) (σ : St) (H : Hp) (x y : V) (v u : Value) (Q : VK), Inv X pins σ H s → RelV x v → RelV y u → t x y H Q →
    wpAny (model X.prog X.w) X.A (inplaceOp op v u) (EP X pins σ Q) X.xe s
section
variable {X : Cx} {pos : Pos}
def gName (i : Nat) : TG := fun v σ H Q => Q (σ.set i (some v)) H
def tAsg (te : TE) (g : TG) : TS := fun D σ H => te σ H fun x H1 => g x σ H1 D.nx
theorem ps_set {i : Nat} {x : Str} {e : Expr} {te : TE} {pos' : Pos} (hN : X.N.Nodup) (hi : X.N[i]? = some x) (hx : Loc X.env.scope x) (he : PE X e te) (hs : swapsWith e (some (.Name x pos')) pos.line X.env = pure false := by rfl) (hf : X.fn x = true ∨ X.env.scope.names.lookup x = some .local := by first | exact .inl rfl | exact .inr rfl | assumption) :
    PS X (.Assign [.Name x pos'] e pos) (tAsg te (gName i)) := by
  intro pins s σ H D I h
  refine wpAny_Assign_Name (thn (he pins s σ H _ I h) fun v s1 ⟨y, H1, I1, r1, q1⟩ => ?_) hs
  exact store_ok I1 hN hi hx r1 (fun s2 I2 => ⟨_, H1, I2, q1⟩) hf
def tAug (i : Nat) (te : TE) (ti : TIp) : TS := fun D σ H => ∃ x, σ[i]? = some (some x) ∧ te σ H fun y H1 => ti x y H1 fun z H2 => D.nx (σ.set i (some z)) H2
theorem ps_aug {i : Nat} {x : Str} {e : Expr} {te : TE} {op : Operator} {ti : TIp} {pos' : Pos} (hN : X.N.Nodup) (hi : X.N[i]? = some x) (hx : Loc X.env.scope x) (he : PE X e te) (ho : PIp X op ti) (hf : X.fn x = true ∨ X.env.scope.names.lookup x = some .local := by first | exact .inl rfl | exact .inr rfl | assumption) :
    PS X (.AugAssign (.Name x pos') op e pos) (tAug i te ti) := by
  intro pins s σ H D I h
  obtain ⟨v, e1, h⟩ := h
  obtain ⟨m, hn, hl⟩ := I.loc
  have vis : Vis X.env.scope x := by rcases hx with k | k; exact .inl k; exact .inr (.inl k)
  obtain ⟨u, r, l⟩ := hl i x v hi e1 vis
  refine wpAny_AugAssign_Name ?_
  have go : wpAny (model X.prog X.w) X.A (eval e X.env) (fun w s₂ => wpAny (model X.prog X.w) X.A (inplaceOp op u w) (fun r s₃ => wpAny (model X.prog X.w) X.A (storeName X.env x r) (fun _ => SP X pins D .next) X.xe s₃) X.xe s₂) X.xe s := by
    refine thn (he pins s σ H _ I h) fun w s1 ⟨y, H1, I1, r1, q1⟩ => ?_
    refine thn (ho pins s1 σ H1 v y u w _ I1 r r1 q1) fun z s2 ⟨zv, H2, I2, r2, q2⟩ => ?_
    exact store_ok I2 hN hi hx r2 (fun s3 I3 => ⟨_, H2, I3, q2⟩) hf
  rcases l with ⟨hk, hm⟩ | ⟨hk, c, hc, hcell⟩
  · exact wpAny_loadName_local I.ok.kind hk hn hm go
  · rcases hk with hk | hk
    · exact wpAny_loadName_cell I.ok.kind hk hc hcell go
    · rcases hx with k | k
      · have : X.env.scope.names.lookup x = some .free := hk
        rw [k] at this; cases this
      · have : X.env.scope.names.lookup x = some .free := hk
        rw [k] at this; cases this
end
section
variable {X : Cx} {pos : Pos}
def tWhile (c : TT) (tb : TS) : TS := fun D σ H => ∃ W : Nat → St → Hp → Prop, (∃ m, W m σ H) ∧ ∀ m σ H, W m σ H →
  c σ H fun b H1 => if b = true then ∃ N : St → Hp → Prop, (∀ σ' H', N σ' H' → ∃ m', m' < m ∧ W m' σ' H') ∧ tb { D with nx := N, ct := N, bk := D.nx } σ H1 else D.nx σ H1
theorem ps_while {c : Expr} {body : List Stmt} {tc : TT} {tb : TS} (hp : PassesOwn (model X.prog X.w) X.A X.env X.xe) (hc : PT X c tc) (hb : PSs X body tb) : PS X (.While c body [] pos) (tWhile tc tb) := by
  intro pins s σ H D I h
  obtain ⟨W, ⟨m0, w0⟩, turn⟩ := h
  refine wpAny_While (codeAny_whileLoop (fun n s' => ∃ σ' H', Inv X pins σ' H' s' ∧ W n σ' H') ?_ m0 ⟨σ, H, I, w0⟩)
  rintro n s1 ⟨σ1, H1, I1, w1⟩
  refine wpAny_passesOwn hp (thn (hc pins s1 σ1 H1 _ I1 (turn n σ1 H1 w1)) fun b s2 ⟨H2, I2, q2⟩ => ?_)
  cases b with
  | true =>
    obtain ⟨N, hN, q2⟩ := q2
    rw [if_pos rfl]
    refine wpAny_passesOwn hp (thn (hb pins s2 σ1 H2 _ I2 q2) fun f s3 q3 => ?_)
    cases f with
    | next =>
      obtain ⟨σ3, H3, I3, n3⟩ := q3
      obtain ⟨m', hm, w3⟩ := hN σ3 H3 n3
      exact ⟨m', hm, σ3, H3, I3, w3⟩
    | cont =>
      obtain ⟨σ3, H3, I3, n3⟩ := q3
      obtain ⟨m', hm, w3⟩ := hN σ3 H3 n3
      exact ⟨m', hm, σ3, H3, I3, w3⟩
    | brk => exact q3
    | ret v => exact q3
  | false =>
    rw [if_neg Bool.false_ne_true]
    exact wpAny_execs_nil ⟨σ1, H2, I2, q2⟩
end
end L2
namespace L2
open PySem PySem.Spec PyProof.Rows
section
variable {X : Cx} {tg : Expr}
end
end L2
namespace L2
open PySem PySem.Spec PyProof.Rows
abbrev R2 := V → V → Hp → VK → Prop
def OpR (X : Cx) (f : Value → Value → Sem Value) (r : R2) : Prop :=
  ∀ (pins : List (Addr × Obj)) (s : Shared) (σ : St) (H : Hp) (x y : V) (v u : Value) (Q : VK), Inv X pins σ H s → RelV x v → RelV y u → r x y H Q →
    wpAny (model X.prog X.w) X.A (f v u) (EP X pins σ Q) X.xe s
def UnR (X : Cx) (f : Value → Sem Value) (r : V → Hp → VK → Prop) : Prop :=
  ∀ (pins : List (Addr × Obj)) (s : Shared) (σ : St) (H : Hp) (x : V) (v : Value) (Q : VK), Inv X pins σ H s → RelV x v → r x H Q →
    wpAny (model X.prog X.w) X.A (f v) (EP X pins σ Q) X.xe s
def CallR (X : Cx) (f : Value) (r : List V → Hp → VK → Prop) : Prop :=
  ∀ (pins : List (Addr × Obj)) (s : Shared) (σ : St) (H : Hp) (xs : List V) (us : List Value) (Q : VK), Inv X pins σ H s → Vals xs us → r xs H Q →
    wpAny (model X.prog X.w) X.A (call f us) (EP X pins σ Q) X.xe s
def tOp (r : R2) (ta tb : TE) : TE := fun σ H Q => ta σ H fun x H1 => tb σ H1 fun y H2 => r x y H2 Q
def tUn (r : V → Hp → VK → Prop) (ta : TE) : TE := fun σ H Q => ta σ H fun x H1 => r x H1 Q
def rI (C : Int → Int → Prop) (g : Int → Int → V) : R2 := fun x y H Q => ∃ i j, x = .int i ∧ y = .int j ∧ C i j ∧ Q (g i j) H
def rI0 (g : Int → Int → V) : R2 := fun x y H Q => ∃ i j, x = .int i ∧ y = .int j ∧ Q (g i j) H
def rU (g : Int → V) : V → Hp → VK → Prop := fun x H Q => ∃ i, x = .int i ∧ Q (g i) H

section
variable {X : Cx} {a b c : Expr} {ta tb tc : TE} {pos : Pos}
theorem binT (ha : PE X a ta) (hb : PE X b tb) {pins : List (Addr × Obj)} {s : Shared} {σ : St} {H : Hp} {R : V → V → Hp → Prop} (I : Inv X pins σ H s)
    (h : ta σ H fun x H1 => tb σ H1 fun y H2 => R x y H2) {Q : Value → Shared → Prop} {f : Value → Value → Sem Value}
    (hf : ∀ v u s2 x y H2, Inv X pins σ H2 s2 → RelV x v → RelV y u → R x y H2 → wpAny (model X.prog X.w) X.A (f v u) Q X.xe s2) :
    wpAny (model X.prog X.w) X.A (eval a X.env) (fun v s₁ => wpAny (model X.prog X.w) X.A (eval b X.env) (fun u s₂ => wpAny (model X.prog X.w) X.A (f v u) Q X.xe s₂) X.xe s₁) X.xe s := by
  refine thn (ha pins s σ H _ I h) fun v s1 ⟨x, H1, I1, r1, q1⟩ => ?_
  refine thn (hb pins s1 σ H1 _ I1 q1) fun u s2 ⟨y, H2, I2, r2, q2⟩ => ?_
  exact hf v u s2 x y H2 I2 r1 r2 q2

theorem pe_op {op : Operator} {r : R2} (ho : OpR X (binaryOp op) r) (ha : PE X a ta) (hb : PE X b tb) : PE X (.BinOp a op b pos) (tOp r ta tb) := by
  intro pins s σ H Q I h
  exact wpAny_BinOp (binT ha hb I h fun v u s2 x y H2 I2 rx ry q => ho pins s2 σ H2 x y v u Q I2 rx ry q)
theorem pe_un {op : UnaryOp} {r : V → Hp → VK → Prop} (ho : UnR X (unaryOp op) r) (ha : PE X a ta) : PE X (.UnaryOp op a pos) (tUn r ta) := by
  intro pins s σ H Q I h
  exact UnaryOp_ (thn (ha pins s σ H _ I h) fun v s1 ⟨x, H1, I1, r1, q1⟩ => ho pins s1 σ H1 x v Q I1 r1 q1)
theorem opI {f : Value → Value → Sem Value} {C : Int → Int → Prop} {g : Int → Int → Int}
    (rule : ∀ (i j : Int) (t u : Tok) (s : Shared) (Q : Value → Shared → Prop) (E : Value → Shared → Prop), C i j → Q (.int (g i j) s.toks) { s with toks := s.toks + 1 } → wpAny (model X.prog X.w) X.A (f (.int i t) (.int j u)) Q E s) :
    OpR X f (rI C fun i j => .int (g i j)) := by
  intro pins s σ H x y v u Q I rx ry h
  obtain ⟨i, j, rfl, rfl, hc, q⟩ := h
  obtain ⟨t, rfl⟩ := rx
  obtain ⟨t', rfl⟩ := ry
  exact rule i j t t' s _ _ hc ⟨.int (g i j), H, I.tok _, ⟨_, rfl⟩, q⟩
theorem opI0 {f : Value → Value → Sem Value} {g : Int → Int → Int}
    (rule : ∀ (i j : Int) (t u : Tok) (s : Shared) (Q : Value → Shared → Prop) (E : Value → Shared → Prop), Q (.int (g i j) s.toks) { s with toks := s.toks + 1 } → wpAny (model X.prog X.w) X.A (f (.int i t) (.int j u)) Q E s) :
    OpR X f (rI0 fun i j => .int (g i j)) := by
  intro pins s σ H x y v u Q I rx ry h
  obtain ⟨i, j, rfl, rfl, q⟩ := h
  obtain ⟨t, rfl⟩ := rx
  obtain ⟨t', rfl⟩ := ry
  exact rule i j t t' s _ _ ⟨.int (g i j), H, I.tok _, ⟨_, rfl⟩, q⟩
theorem opB0 {f : Value → Value → Sem Value} {g : Int → Int → Bool}
    (rule : ∀ (i j : Int) (t u : Tok) (s : Shared) (Q : Value → Shared → Prop) (E : Value → Shared → Prop), Q (.bool (g i j)) s → wpAny (model X.prog X.w) X.A (f (.int i t) (.int j u)) Q E s) :
    OpR X f (rI0 fun i j => .bl (g i j)) := by
  intro pins s σ H x y v u Q I rx ry h
  obtain ⟨i, j, rfl, rfl, q⟩ := h
  obtain ⟨t, rfl⟩ := rx
  obtain ⟨t', rfl⟩ := ry
  exact rule i j t t' s _ _ ⟨.bl (g i j), H, I, rfl, q⟩

def CMul (i j : Int) : Prop := (-(2 ^ 64) < i ∧ i < 2 ^ 64) ∨ (-(2 ^ 64) < j ∧ j < 2 ^ 64)
theorem CMul.ok {i j : Int} (h : CMul i j) : IntMulOk i j := by
  rcases h with ⟨h1, h2⟩ | ⟨h1, h2⟩
  · exact .of_left (intBits_le_64 h1 h2)
  · exact .of_right (intBits_le_64 h1 h2)
theorem two_pow_nn (k : Nat) : (0 : Int) ≤ 2 ^ k := by
  rw [two_pow_cast]
  exact Int.natCast_nonneg _

theorem op_add : OpR X (binaryOp .Add) (rI0 fun i j => .int (i + j)) := opI0 fun _ _ _ _ _ _ _ q => add_int q
theorem op_sub : OpR X (binaryOp .Sub) (rI0 fun i j => .int (i - j)) := opI0 fun _ _ _ _ _ _ _ q => sub_int q
theorem op_mod : OpR X (binaryOp .Mod) (rI (fun _ j => 0 < j) fun i j => .int (i % j)) := opI fun i j _ _ _ _ _ hc q => by
  have h1 : (0 : Int) < j := hc
  exact mod_int' (by omega) (by rw [Int.fmod_eq_emod_of_nonneg i (by omega)]; exact q)
theorem op_shr : OpR X (binaryOp .RShift) (rI (fun _ j => 0 ≤ j) fun i j => .int (i / 2 ^ j.toNat)) := opI fun i j _ _ _ _ _ hc q =>
  rshift_int hc (by rw [Int.fdiv_eq_ediv_of_nonneg i (two_pow_nn _)]; exact q)
theorem iop_add : OpR X (inplaceOp .Add) (rI0 fun i j => .int (i + j)) := opI0 fun _ _ _ _ _ _ _ q => iadd_int q
theorem unI {f : Value → Sem Value} {g : Int → Int}
    (rule : ∀ (i : Int) (t : Tok) (s : Shared) (Q : Value → Shared → Prop) (E : Value → Shared → Prop), Q (.int (g i) s.toks) { s with toks := s.toks + 1 } → wpAny (model X.prog X.w) X.A (f (.int i t)) Q E s) :
    UnR X f (rU fun i => .int (g i)) := by
  intro pins s σ H x v Q I rx h
  obtain ⟨i, rfl, q⟩ := h
  obtain ⟨t, rfl⟩ := rx
  exact rule i t s _ _ ⟨.int (g i), H, I.tok _, ⟨_, rfl⟩, q⟩
theorem un_neg : UnR X (unaryOp .USub) (rU fun i => .int (-i)) := unI fun _ _ _ _ _ q => neg_int q
end
def scal : V → V → Bool
  | .non, .non => true | .non, .int _ => true | .int _, .non => true | .non, .bl _ => true | .bl _, .non => true | .non, .str _ => true | .str _, .non => true
  | .int _, .int _ => true | .bl _, .bl _ => true | .str _, .str _ => true | .byt _, .byt _ => true
  | .int _, .str _ => true | .str _, .int _ => true | .bl _, .str _ => true | .str _, .bl _ => true
  | _, _ => false
def rEq : R2 := fun x y H Q => scal x y = true ∧ Q (.bl (decide (x = y))) H
def rNe : R2 := fun x y H Q => scal x y = true ∧ Q (.bl (!decide (x = y))) H

theorem dec_int {i j : Int} : decide (V.int i = V.int j) = (i == j) := by
  rw [Bool.eq_iff_iff]
  simp
theorem dec_bl {i j : Bool} : decide (V.bl i = V.bl j) = (i == j) := by
  rw [Bool.eq_iff_iff]
  simp
theorem dec_str {i j : Str} : decide (V.str i = V.str j) = (i == j) := by
  rw [Bool.eq_iff_iff]
  simp
theorem dec_byt {i j : Array UInt8} : decide (V.byt i = V.byt j) = (i.toList == j.toList) := by
  rw [Bool.eq_iff_iff]
  cases i
  cases j
  simp

section
variable {X : Cx} {a b c : Expr} {ta tb tc : TE} {pos : Pos}
theorem fin_bl {pins : List (Addr × Obj)} {σ : St} {H : Hp} {s : Shared} {Q : VK} {k k' : Bool} (I : Inv X pins σ H s) (q : Q (.bl k) H) (e : k = k') : EP X pins σ Q (.bool k') s := by
  subst e
  exact ⟨.bl k, H, I, rfl, q⟩
theorem op_eq : OpR X (compareOp .Eq) rEq := by
  intro pins s σ H x y v u Q I rx ry h
  obtain ⟨hs, q⟩ := h
  cases x with
  | non =>
    cases rx
    cases y with
    | non => cases ry; exact PySem.EqNone.eq_none_none (fin_bl I q (by simp))
    | bl j => cases ry; exact PySem.EqNone.eq_none_bool (fin_bl I q (by simp))
    | int j => obtain ⟨t', rfl⟩ := ry; exact PySem.EqNone.eq_none_int (fin_bl I q (by simp))
    | str j => obtain ⟨t', rfl⟩ := ry; exact PySem.EqNone.eq_none_str (fin_bl I q (by simp))
    | _ => exact absurd (show false = true from hs) Bool.false_ne_true
  | bl i =>
    cases rx
    cases y with
    | non => cases ry; exact PySem.EqNone.eq_bool_none (fin_bl I q (by simp))
    | bl j => cases ry; exact eq_bool (fin_bl I q dec_bl)
    | str j => obtain ⟨t', rfl⟩ := ry; exact PySem.EqMixed.eq_bool_str (fin_bl I q (by simp))
    | _ => exact absurd (show false = true from hs) Bool.false_ne_true
  | int i =>
    obtain ⟨t, rfl⟩ := rx
    cases y with
    | non => cases ry; exact PySem.EqNone.eq_int_none (fin_bl I q (by simp))
    | int j => obtain ⟨t', rfl⟩ := ry; exact eq_int (fin_bl I q dec_int)
    | str j => obtain ⟨t', rfl⟩ := ry; exact PySem.EqMixed.eq_int_str (fin_bl I q (by simp))
    | _ => exact absurd (show false = true from hs) Bool.false_ne_true
  | str i =>
    obtain ⟨t, rfl⟩ := rx
    cases y with
    | non => cases ry; exact PySem.EqNone.eq_str_none (fin_bl I q (by simp))
    | bl j => cases ry; exact PySem.EqMixed.eq_str_bool (fin_bl I q (by simp))
    | int j => obtain ⟨t', rfl⟩ := ry; exact PySem.EqMixed.eq_str_int (fin_bl I q (by simp))
    | str j => obtain ⟨t', rfl⟩ := ry; exact eq_str (fin_bl I q dec_str)
    | _ => exact absurd (show false = true from hs) Bool.false_ne_true
  | byt i =>
    obtain ⟨t, rfl⟩ := rx
    cases y with
    | byt j => obtain ⟨t', rfl⟩ := ry; exact PySem.W.eq_bytes (fin_bl I q dec_byt)
    | _ => exact absurd (show false = true from hs) Bool.false_ne_true
  | _ => cases y <;> exact absurd (show false = true from hs) Bool.false_ne_true
theorem op_ne : OpR X (compareOp .NotEq) rNe := by
  intro pins s σ H x y v u Q I rx ry h
  obtain ⟨hs, q⟩ := h
  cases x with
  | non =>
    cases rx
    cases y with
    | non => cases ry; exact PySem.EqNone.ne_none_none (fin_bl I q (by simp))
    | bl j => cases ry; exact PySem.EqNone.ne_none_bool (fin_bl I q (by simp))
    | int j => obtain ⟨t', rfl⟩ := ry; exact PySem.EqNone.ne_none_int (fin_bl I q (by simp))
    | str j => obtain ⟨t', rfl⟩ := ry; exact PySem.EqNone.ne_none_str (fin_bl I q (by simp))
    | _ => exact absurd (show false = true from hs) Bool.false_ne_true
  | bl i =>
    cases rx
    cases y with
    | non => cases ry; exact PySem.EqNone.ne_bool_none (fin_bl I q (by simp))
    | bl j => cases ry; exact ne_bool (fin_bl I q (congrArg not dec_bl))
    | str j => obtain ⟨t', rfl⟩ := ry; exact PySem.EqMixed.ne_bool_str (fin_bl I q (by simp))
    | _ => exact absurd (show false = true from hs) Bool.false_ne_true
  | int i =>
    obtain ⟨t, rfl⟩ := rx
    cases y with
    | non => cases ry; exact PySem.EqNone.ne_int_none (fin_bl I q (by simp))
    | int j => obtain ⟨t', rfl⟩ := ry; exact ne_int (fin_bl I q (congrArg not dec_int))
    | str j => obtain ⟨t', rfl⟩ := ry; exact PySem.EqMixed.ne_int_str (fin_bl I q (by simp))
    | _ => exact absurd (show false = true from hs) Bool.false_ne_true
  | str i =>
    obtain ⟨t, rfl⟩ := rx
    cases y with
    | non => cases ry; exact PySem.EqNone.ne_str_none (fin_bl I q (by simp))
    | bl j => cases ry; exact PySem.EqMixed.ne_str_bool (fin_bl I q (by simp))
    | int j => obtain ⟨t', rfl⟩ := ry; exact PySem.EqMixed.ne_str_int (fin_bl I q (by simp))
    | str j => obtain ⟨t', rfl⟩ := ry; exact ne_str (fin_bl I q (congrArg not dec_str))
    | _ => exact absurd (show false = true from hs) Bool.false_ne_true
  | byt i =>
    obtain ⟨t, rfl⟩ := rx
    cases y with
    | byt j => obtain ⟨t', rfl⟩ := ry; exact PySem.W.ne_bytes (fin_bl I q (congrArg not dec_byt))
    | _ => exact absurd (show false = true from hs) Bool.false_ne_true
  | _ => cases y <;> exact absurd (show false = true from hs) Bool.false_ne_true

theorem op_lt : OpR X (compareOp .Lt) (rI0 fun i j => .bl (decide (i < j))) := opB0 fun _ _ _ _ _ _ _ q => lt_int q
theorem op_le : OpR X (compareOp .LtE) (rI0 fun i j => .bl (decide (i ≤ j))) := opB0 fun _ _ _ _ _ _ _ q => le_int q
theorem op_gt : OpR X (compareOp .Gt) (rI0 fun i j => .bl (decide (j < i))) := opB0 fun _ _ _ _ _ _ _ q => gt_int q
theorem op_ge : OpR X (compareOp .GtE) (rI0 fun i j => .bl (decide (j ≤ i))) := opB0 fun _ _ _ _ _ _ _ q => ge_int q
theorem nomark (b : Expr) {op : CmpOp} (h : op ≠ .In := by decide) (h2 : op ≠ .NotIn := by decide) : behindInMarks op b = false := by
  have e1 : (op == CmpOp.In) = false := by cases op <;> first | rfl | exact absurd rfl h
  have e2 : (op == CmpOp.NotIn) = false := by cases op <;> first | rfl | exact absurd rfl h2
  cases b <;> simp [behindInMarks, e1, e2]
theorem pe_cmpR {op : CmpOp} {r : R2} (ho : OpR X (compareOp op) r) (ha : PE X a ta) (hb : PE X b tb) (hm : behindInMarks op b = false) : PE X (.Compare a [op] [b] pos) (tOp r ta tb) := by
  intro pins s σ H Q I h
  exact wpAny_Compare1 (binT ha hb I h fun v u s2 x y H2 I2 rx ry q => ho pins s2 σ H2 x y v u Q I2 rx ry q) hm
def tTest (t : TE) : TT := fun σ H Q => t σ H fun x H' => ∃ k, x = .bl k ∧ Q k H'
theorem pt_cmpR {op : CmpOp} {r : R2} (ho : OpR X (compareOp op) r) (ha : PE X a ta) (hb : PE X b tb) (hm : behindInMarks op b = false) : PT X (.Compare a [op] [b] pos) (tTest (tOp r ta tb)) := by
  intro pins s σ H Q I h
  refine wpAny_isTrue_Compare1 (thn (ha pins s σ H _ I h) fun v s1 ⟨x, H1, I1, r1, q1⟩ => thn (hb pins s1 σ H1 _ I1 q1) fun u s2 ⟨y, H2, I2, r2, q2⟩ =>
    thn (ho pins s2 σ H2 x y v u _ I2 r1 r2 q2) fun c s3 ⟨z, H3, I3, r3, k, e, q3⟩ => ?_) hm
  subst e
  cases r3
  exact wpAny_truthy_bool ⟨H3, I3, q3⟩
def tChain (r r' : R2) (ta tb tc : TE) : TE := fun σ H Q => ta σ H fun x H1 => tb σ H1 fun y H2 => r x y H2 fun z H3 => ∃ k, z = .bl k ∧
  (if k = true then tc σ H3 fun w' H4 => r' y w' H4 Q else Q (.bl false) H3)
theorem pe_chain {op op' : CmpOp} {r r' : R2} (ho : OpR X (compareOp op) r) (ho' : OpR X (compareOp op') r') (ha : PE X a ta) (hb : PE X b tb) (hc : PE X c tc)
    (hm : lastMarks [op, op'] [b, c] = false := by with_unfolding_all rfl) : PE X (.Compare a [op, op'] [b, c] pos) (tChain r r' ta tb tc) := by
  intro pins s σ H Q I h
  refine Compare_chain (thn (ha pins s σ H _ I h) fun v s1 ⟨x, H1, I1, r1, q1⟩ => chain_link (thn (hb pins s1 σ H1 _ I1 q1) fun u s2 ⟨y, H2, I2, r2, q2⟩ =>
    thn (ho pins s2 σ H2 x y v u _ I2 r1 r2 q2) fun d s3 ⟨z, H3, I3, r3, k, e, q3⟩ => ?_)) hm
  subst e
  cases r3
  refine wpAny_truthy_bool ?_
  cases k with
  | false => exact ite_ff ⟨.bl false, H3, I3, rfl, q3⟩
  | true => exact ite_tt (chain_last (thn (hc pins s3 σ H3 _ I3 q3) fun w' s4 ⟨z', H4, I4, r4, q4⟩ => ho' pins s4 σ H4 y z' u w' Q I4 r2 r4 q4))
theorem line63 : (sizeLine : Nat) < 2 ^ 63 := by rw [sizeLine_eq]; decide
theorem vals1 {x : V} {us : List Value} (r : Vals [x] us) : ∃ u, us = [u] ∧ RelV x u := by
  cases r with
  | cons r1 r2 => cases r2; exact ⟨_, rfl, r1⟩
theorem call_abs : CallR X (.builtin "abs") (fun xs H Q => ∃ i, xs = [.int i] ∧ Q (.int (if i < 0 then -i else i)) H) := by
  intro pins s σ H xs us Q I r h
  obtain ⟨i, rfl, q⟩ := h
  obtain ⟨u, rfl, t, rfl⟩ := vals1 r
  exact call_abs_int fun u tk => ⟨.int (if i < 0 then -i else i), H, I.tok _, ⟨_, rfl⟩, q⟩
end
end L2
namespace L2
open PySem PySem.Spec PyProof.Rows
structure ObjM (h : Heap) (x dx C : Addr) (mA : Str → Option Value) : Prop where
  obj : h.get? x = some (PySem.W.instObj C dx)
  ns : h.Ns1 dx mA
  ne : dx ≠ x

theorem lookIn_ns {h : Heap} {dx : Addr} {mA : Str → Option Value} (n : h.Ns1 dx mA) : ∃ od, h.get? dx = some od ∧ ∀ name, PySem.W.lookIn name od = some (mA name) := by
  obtain ⟨o, es, ep, ho, hd, hk, _, hm⟩ := n
  refine ⟨o, ho, fun name => ?_⟩
  have e := hm name
  unfold nsFind findBy at e
  rw [← Array.find?_toList] at e
  unfold PySem.W.lookIn
  rw [hd]
  dsimp only
  split
  · rename_i y q
    rw [q] at e
    exact congrArg some e
  · rename_i q
    rw [q] at e
    have a : es.toList.any (·.refKey) = false := by
      rw [List.any_eq_false]
      intro y hy
      obtain ⟨z, t, hkey⟩ := hk y (Array.mem_toList_iff.mp hy)
      simp [DictEntry.refKey, hkey]
    have a' : ¬ es.toList.any (·.refKey) = true := by rw [a]; exact Bool.false_ne_true
    rw [if_neg a']
    exact congrArg some e

theorem ObjM.look {h : Heap} {x dx C : Addr} {mA : Str → Option Value} (I : ObjM h x dx C mA) : ∃ od, PySem.W.InstAt h x (PySem.W.instObj C dx) C (some od) ∧ ∀ name, PySem.W.lookIn name od = some (mA name) :=
  let ⟨od, ho, hl⟩ := lookIn_ns I.ns
  ⟨od, ⟨I.obj, rfl, rfl, ho⟩, hl⟩

section
variable {prog : Program} {w : World} {A : Around} {E : Value → Shared → Prop} {s : Shared} {K : PySem.W.Frag} {x dx C f : Addr} {mA : Str → Option Value} {name : Str} {v : Value}
theorem get_map {expr : Bool} {Q : Value → Shared → Prop} (X : K.In s.heap) (I : ObjM s.heap x dx C mA) (hg : PySem.W.plainGet K C name = true) (hh : PySem.W.hasDictIn K C = true)
    (ha : PySem.W.findIn K (.ref C) name = some none) (hv : mA name = some v) (hv' : PySem.W.handedIn v = true) (h : Q v { s with toks := s.toks + 1 }) :
    wpAny (model prog w) A (getAttr (.ref x) name expr) Q E s := by
  obtain ⟨od, J, hl⟩ := I.look
  exact PySem.W.get_value X J (PySem.W.plainGet_of hg).1 (PySem.W.findObj_own hh ha rfl (by rw [hl, hv])) hv' h

theorem set_map {ns : List Str} {Q : Unit → Shared → Prop} (X : K.In s.heap) (I : ObjM s.heap x dx C mA)
    (hs : PySem.W.findIn K (.ref C) "__setattr__" = some (some (.builtin "object.__setattr__"))) (hp : PySem.W.plainOver K C = true) (ht : PySem.W.takerIn K C name = some none) (hh : PySem.W.hasDictIn K C = true)
    (hw : PySem.Within mA ns) (hsz : ns.length ≤ sizeLine)
    (h : ∀ h', ObjM h' x dx C (fun y => if y = name then some v else mA y) → Heap.SameBut dx s.heap h' → Q () { s with heap := h', toks := s.toks + 2 }) :
    wpAny (model prog w) A (setAttr (.ref x) name v) Q E s := by
  obtain ⟨od, J, hl⟩ := I.look
  refine PySem.W.set_plain X J hs (PySem.W.osa_open (s := { s with toks := s.toks + 1 }) (r := none) X J hp ht fun b => ?_)
  obtain ⟨cd, hc, hd'⟩ := PySem.W.any_some hh
  have hx : s.heap.get? x = some ⟨.ref C, some dx, .plain, #[]⟩ := I.obj
  refine wpAny_bind (wpAny_pure (wpAny_bind (wpAny_bind (wpAny_loadPart hx (wpAny_bind (PySem.W.Looks.here (s := { s with toks := s.toks + 1 }) (PySem.W.looks_clsIn X hc) ?_))))))
  rw [hd']
  refine wpAny_pure (a := some dx) (wpAny_bind (wpAny_pure (wpAny_bind ?_)))
  refine wpAny_nsSet1 (s := { s with toks := s.toks + 1 }) I.ns fun h' hn2 hs2 => ?_
  obtain ⟨oD, esD, epD, hoD, hdD, hcD⟩ := hn2.count (PySem.Within.cons name v hw)
  refine wpAny_bind (wpAny_lookBehind hoD (by rw [hdD]; exact pastItsLine_dict (Nat.le_trans hcD (by rw [List.length_cons]; omega))) ?_)
  exact wpAny_pure (h _ ⟨(hs2.2 _ (Ne.symm I.ne)).trans I.obj, hn2, I.ne⟩ hs2)

theorem make_map {R : Result → Shared → Prop} {vs : List Value} {kw : List (Str × Value)} (X : K.In s.heap) (hm : PySem.W.makesIn K C = true)
    (hi : PySem.W.findIn K (.ref C) "__init__" = some (some (.ref f))) (hf : PySem.W.typeIn K (.ref f) = some (.type "function"))
    (h : codeAny (model prog w) (A.under (.builtin "type.__call__" ⟨.ref C :: vs, kw⟩)) (.call (.ref f) ⟨.ref (s.heap.objs.size + 1) :: vs, kw⟩) (PySem.W.InitBack (s.heap.objs.size + 1) R)
      { s with heap := (s.heap.push PySem.W.emptyDict).push (PySem.W.instObj C s.heap.objs.size) }) :
    codeAny (model prog w) A (.call (.ref C) ⟨vs, kw⟩) R s := by
  obtain ⟨hh, g, d, t, os⟩ := s
  exact PySem.W.make_core (PySem.W.makes_of X hm) (PySem.W.looks_findIn X hi) (fun self => PySem.W.bind_fn X self hf) (.inl rfl) h
end
def putF (f : Str) (v : V) : List (Str × V) → List (Str × V)
  | [] => [(f, v)]
  | (g, x) :: r => if g = f then (g, v) :: r else (g, x) :: putF f v r
theorem lookup_putF (f g : Str) (v : V) : ∀ fs : List (Str × V), (putF f v fs).lookup g = if g = f then some v else fs.lookup g
  | [] => by
    show List.lookup g [(f, v)] = _
    by_cases h : g = f
    · have hb : (g == f) = true := beq_iff_eq.mpr h
      simp only [List.lookup, hb, if_pos h]
    · have hb : (g == f) = false := beq_eq_false_iff_ne.mpr h
      simp only [List.lookup, hb, if_neg h]
  | (k, x) :: r => by
    have ih := lookup_putF f g v r
    rw [show putF f v ((k, x) :: r) = (if k = f then (k, v) :: r else (k, x) :: putF f v r) from rfl]
    by_cases hk : k = f
    · rw [if_pos hk]
      by_cases h : g = k
      · have hb : (g == k) = true := beq_iff_eq.mpr h
        simp only [List.lookup, hb, if_pos (h.trans hk)]
      · have hb : (g == k) = false := beq_eq_false_iff_ne.mpr h
        simp only [List.lookup, hb, if_neg (fun e : g = f => h (e.trans hk.symm))]
    · rw [if_neg hk]
      by_cases h : g = k
      · have hb : (g == k) = true := beq_iff_eq.mpr h
        simp only [List.lookup, hb, if_neg (fun e : g = f => hk (h.symm.trans e))]
      · have hb : (g == k) = false := beq_eq_false_iff_ne.mpr h
        simp only [List.lookup, hb]
        exact ih
theorem keys_putF (f : Str) (v : V) : ∀ fs : List (Str × V), f ∈ (putF f v fs).map (·.1) ∧ ∀ g, g ∈ fs.map (·.1) → g ∈ (putF f v fs).map (·.1)
  | [] => ⟨by simp [putF], fun g h => by simp at h⟩
  | (k, x) :: r => by
    obtain ⟨i1, i2⟩ := keys_putF f v r
    rw [show putF f v ((k, x) :: r) = (if k = f then (k, v) :: r else (k, x) :: putF f v r) from rfl]
    by_cases hk : k = f
    · rw [if_pos hk]
      subst hk
      exact ⟨by simp, fun g h => by simpa using h⟩
    · rw [if_neg hk]
      refine ⟨?_, fun g h => ?_⟩
      · rw [List.map_cons]
        exact List.mem_cons_of_mem _ i1
      · rw [List.map_cons] at h ⊢
        rcases List.mem_cons.mp h with e | e
        · exact List.mem_cons.mpr (.inl e)
        · exact List.mem_cons_of_mem _ (i2 g e)
theorem length_putF (f : Str) (v : V) : ∀ fs : List (Str × V), (putF f v fs).length ≤ fs.length + 1
  | [] => by simp [putF]
  | (k, x) :: r => by
    have ih := length_putF f v r
    rw [show putF f v ((k, x) :: r) = (if k = f then (k, v) :: r else (k, x) :: putF f v r) from rfl]
    by_cases hk : k = f
    · rw [if_pos hk, List.length_cons, List.length_cons]; omega
    · rw [if_neg hk, List.length_cons, List.length_cons]; omega

theorem RelO.some_of {v : V} {o : Option Value} (r : RelO (some v) o) : ∃ u, o = some u ∧ RelV v u := by
  cases o with
  | none => exact (show False from r).elim
  | some u => exact ⟨u, rfl, r⟩
theorem handed_of {v : V} {u : Value} (r : RelV v u) : PySem.W.handedIn u = true := by
  cases v with
  | non => cases (show u = Value.none from r); rfl
  | bl b => cases (show u = Value.bool b from r); rfl
  | int i => obtain ⟨t, e⟩ := (show ∃ t, u = Value.int i t from r); cases e; rfl
  | str x => obtain ⟨t, e⟩ := (show ∃ t, u = Value.str x t from r); cases e; rfl
  | byt b => obtain ⟨t, e⟩ := (show ∃ t, u = Value.bytes b t from r); cases e; rfl
  | flt b => obtain ⟨t, e⟩ := (show ∃ t, u = Value.float b t from r); cases e; rfl
  | ref a => cases (show u = Value.ref a from r); rfl
  | ty n => cases (show u = Value.type n from r); rfl

section
variable {P : Program} {w : World} {H H' : Hp} {h h' : Heap} {a C dx : Addr} {fs fs' : List (Str × V)}
theorem ins_get (hok : HOk P w H h) (e : H a = some (.ins C dx fs)) : ∃ mA, ObjM h a dx C mA ∧ (∀ f, RelO (fs.lookup f) (mA f)) ∧ PySem.Within mA (fs.map (·.1)) ∧ fs.length ≤ 1000 ∧ H dx = some (.own a) := by
  obtain ⟨d, z, ne, ob, mA, n, r, q⟩ := (show ObjOk P w H h a (.ins C dx fs) from hok a _ e)
  exact ⟨mA, ⟨ob, n, ne⟩, r, q, z, d⟩
end
structure Cls (K : PySem.W.Frag) (C : Addr) : Prop where
  pg : PySem.W.plainGet K C Str.empty = true
  hd : PySem.W.hasDictIn K C = true
  po : PySem.W.plainOver K C = true
  sa : PySem.W.findIn K (.ref C) "__setattr__" = some (some (.builtin "object.__setattr__"))
theorem Cls.get {K : PySem.W.Frag} {C : Addr} (c : Cls K C) (f : Str) : PySem.W.plainGet K C f = true := c.pg
def NoAttr (K : PySem.W.Frag) (C : Addr) (f : Str) : Prop := PySem.W.findIn K (.ref C) f = some none
theorem NoAttr.taker {K : PySem.W.Frag} {C : Addr} {f : Str} (n : NoAttr K C f) : PySem.W.takerIn K C f = some none := by
  unfold PySem.W.takerIn
  rw [show PySem.W.findIn K (.ref C) f = some none from n]
  rfl
section
variable {X : Cx} {pins : List (Addr × Obj)} {σ : St} {H : Hp} {s : Shared} {a C dx : Addr} {fs : List (Str × V)} {f : Str} {v : V} {A : Around} {E : Value → Shared → Prop}
theorem getattr_ok {b : Bool} {Q : Value → Shared → Prop} (I : Inv X pins σ H s) (e : H a = some (.ins C dx fs)) (c : Cls X.K C) (n : NoAttr X.K C f) (l : fs.lookup f = some v)
    (h : ∀ u s', Inv X pins σ H s' → RelV v u → Q u s') : wpAny (model X.prog X.w) A (getAttr (.ref a) f b) Q E s := by
  obtain ⟨mA, O, r, _, _, _⟩ := ins_get I.hok e
  obtain ⟨u, hu, ru⟩ := RelO.some_of (v := v) (o := mA f) (by rw [← l]; exact r f)
  exact get_map I.kIn O (c.get f) c.hd n hu (handed_of ru) (h u _ (I.tok _) ru)

theorem setattr_ok {y : V} {u : Value} {Q : Unit → Shared → Prop} (I : Inv X pins σ H s) (e : H a = some (.ins C dx fs)) (c : Cls X.K C) (n : NoAttr X.K C f) (hl : fs.length < 1000) (ry : RelV y u)
    (h : ∀ s', Inv X pins σ (upd H a (.ins C dx (putF f y fs))) s' → Q () s') : wpAny (model X.prog X.w) A (setAttr (.ref a) f u) Q E s := by
  obtain ⟨mA, O, r, wi, _, ho⟩ := ins_get I.hok e
  have hz : (fs.map (·.1)).length ≤ sizeLine := by rw [List.length_map, sizeLine_eq]; omega
  refine set_map I.kIn O c.sa c.po n.taker c.hd wi hz fun h' O' sb => h _ ?_
  have hd : ∃ o, h'.get? dx = some o := let ⟨o, _, _, e', _⟩ := O'.ns; ⟨o, e'⟩
  refine I.write (x := a) (e := dx) (by rw [e]; exact True.intro) (.inr ho) (fun b q hb z => (sb.2 b hb).trans z) hd ?_
  refine ⟨by rw [upd_ne O.ne]; exact ho, ?_, O.ne, O'.obj, _, O'.ns, fun g => ?_, fun g hg => ?_⟩
  · have := length_putF f y fs; omega
  · show RelO ((putF f y fs).lookup g) (if g = f then some u else mA g)
    rw [lookup_putF]
    by_cases q : g = f
    · rw [if_pos q, if_pos q]; exact ry
    · rw [if_neg q, if_neg q]; exact r g
  · by_cases q : g = f
    · rw [q]; exact (keys_putF f y fs).1
    · refine (keys_putF f y fs).2 g (wi g fun z => hg ?_)
      show (if g = f then some u else mA g) = none
      rw [if_neg q]; exact z

theorem Inv.made (I : Inv X pins σ H s) : Inv X pins σ (upd (upd H s.heap.objs.size (.own (s.heap.objs.size + 1))) (s.heap.objs.size + 1) (.ins C s.heap.objs.size []))
    { s with heap := (s.heap.push PySem.W.emptyDict).push (PySem.W.instObj C s.heap.objs.size) } := by
  have e1 : (s.heap.push PySem.W.emptyDict).get? s.heap.objs.size = some PySem.W.emptyDict := Heap.get?_push_size s.heap rfl
  have e2 : ((s.heap.push PySem.W.emptyDict).push (PySem.W.instObj C s.heap.objs.size)).get? (s.heap.objs.size + 1) = some (PySem.W.instObj C s.heap.objs.size) := by
    have := Heap.get?_push_size (s.heap.push PySem.W.emptyDict) (o := PySem.W.instObj C s.heap.objs.size) rfl
    rwa [Heap.size_push] at this
  have e3 : (s.heap.push PySem.W.emptyDict).Ns s.heap.objs.size (fun _ => none) := ⟨PySem.W.emptyDict, #[], _, e1, rfl, (fun e he => absurd he (by simp)), fun _ => rfl⟩
  have I1 := I.laid (a := s.heap.objs.size) (o := .own (s.heap.objs.size + 1)) (h' := s.heap.push PySem.W.emptyDict) (t' := s.toks) (fun b u q => Heap.get?_push_of_some _ q) (Nat.le_refl _) ⟨_, e1⟩
  refine I1.laid (a := s.heap.objs.size + 1) (o := .ins C s.heap.objs.size []) (t' := s.toks) (fun b u q => Heap.get?_push_of_some _ q) (Nat.le_of_eq (Heap.size_push _ _)) ?_
  have ne : s.heap.objs.size ≠ s.heap.objs.size + 1 := Nat.ne_of_lt (Nat.lt_succ_self _)
  refine ⟨by rw [upd_ne ne, upd_same], Nat.zero_le _, ne, e2, fun _ => none, (Heap.Ns1.of_empty e3).at fun o q => Heap.get?_push_of_some _ q, fun _ => True.intro, fun y hy => absurd rfl hy⟩

theorem attr_of {prog : Program} {w : World} {env : Env} {e : Expr} {f : Str} {pos : Pos} {s : Shared} {Q : Value → Shared → Prop} (hb : attributeBase e f env (eval e env) = eval e env)
    (h : wpAny (model prog w) A (eval e env) (fun o s₁ => wpAny (model prog w) A (getAttr o f true) Q E s₁) E s) : wpAny (model prog w) A (eval (.Attribute e f pos) env) Q E s :=
  Attribute_any_ h (by rw [arm_eval_Attribute, hb])
end
def tFld (K : PySem.W.Frag) (ta : TE) (f : Str) : TE := fun σ H Q => ta σ H fun x H1 => ∃ a C dx fs v, x = .ref a ∧ H1 a = some (.ins C dx fs) ∧ Cls K C ∧ NoAttr K C f ∧ fs.lookup f = some v ∧ Q v H1
def sFld (K : PySem.W.Frag) (ta tv : TE) (f : Str) : TS := fun D σ H => tv σ H fun y H1 => ta σ H1 fun x H2 => ∃ a C dx fs, x = .ref a ∧ H2 a = some (.ins C dx fs) ∧ Cls K C ∧ NoAttr K C f ∧ fs.length < 1000 ∧
  D.nx σ (upd H2 a (.ins C dx (putF f y fs)))
section
variable {X : Cx} {o e value : Expr} {f : Str} {pos pos' tpos : Pos} {ta tv : TE}
theorem pe_fld (he : PE X e ta) (hb : attributeBase e f X.env (eval e X.env) = eval e X.env) : PE X (.Attribute e f pos) (tFld X.K ta f) := by
  intro pins s σ H Q I h
  refine attr_of hb (thn (he pins s σ H _ I h) fun u s1 ⟨x, H1, I1, rx, a, C, dx, fs, v, ex, ea, c, n, l, q⟩ => ?_)
  subst ex
  obtain rfl : u = Value.ref a := rx
  exact getattr_ok I1 ea c n l fun u' s2 I2 ru => ⟨v, H1, I2, ru, q⟩
theorem ps_fld (ha : PE X o ta) (hv : PE X value tv) (hs : swapsWith value (some (.Attribute o f pos')) pos.line X.env = pure false) : PS X (.Assign [.Attribute o f pos'] value pos) (sFld X.K ta tv f) := by
  intro pins s σ H D I h
  refine plainObj_wpAny_Assign_Attribute (thn (hv pins s σ H _ I h) fun u s1 ⟨y, H1, I1, ry, q⟩ => thn (ha pins s1 σ H1 _ I1 q) fun ov s2 ⟨x, H2, I2, rx, a, C, dx, fs, ex, ea, c, n, l, q2⟩ => ?_) hs
  subst ex
  obtain rfl : ov = Value.ref a := rx
  exact setattr_ok I2 ea c n l ry fun s3 I3 => ⟨σ, _, I3, q2⟩
end
section
variable {X : Cx} {pins : List (Addr × Obj)} {σ : St} {H : Hp} {s : Shared} {A : Around} {E : Value → Shared → Prop} {Q : Value → Shared → Prop} {c : Value} {b : Bool}
end
end L2
namespace L2
open PySem PySem.Spec PyProof.Rows
structure Room (k : Nat) (A : Around) : Prop where
  hd : A.handled = none
  dp : A.depth + 3 * k + 5 < recursionLimit
  un : A.units + 16 * k + 200 < cLine
theorem Room.mono {j k : Nat} {A : Around} (r : Room k A) (h : j ≤ k) : Room j A := ⟨r.hd, by have := r.dp; omega, by have := r.un; omega⟩
theorem Room.deeper {k : Nat} {A : Around} (r : Room (k + 1) A) (env : Env) : Room k (A.deeper env) :=
  ⟨r.hd, by have := r.dp; show A.depth + 1 + 3 * k + 5 < _; omega, by have := r.un; show A.units + 3 + 16 * k + 200 < _; omega⟩
theorem Room.in1 {k : Nat} {A : Around} (r : Room (k + 1) A) : Room k A.in1 :=
  ⟨r.hd, by have := r.dp; show A.depth + 3 * k + 5 < _; omega, by have := r.un; show A.units + 1 + 16 * k + 200 < _; omega⟩
theorem make_depth {A : Around} {C : Addr} {us : List Value} {kw : List (Str × Value)} : (A.under (.builtin "type.__call__" ⟨.ref C :: us, kw⟩)).depth = A.depth + 1 := by
  first | rfl | simp [Around.under, Code.weight, Code.isCreation, Code.isGuard, Code.isCaller, Code.frames, Code.isFrame, guardIds]
theorem make_units {A : Around} {C : Addr} {us : List Value} {kw : List (Str × Value)} : (A.under (.builtin "type.__call__" ⟨.ref C :: us, kw⟩)).units = A.units + 1 := by
  first | rfl | simp [Around.under, Code.cUnits, Code.frames, Code.isFrame]
theorem Room.make {k : Nat} {A : Around} (r : Room (k + 1) A) (C : Addr) (us : List Value) (kw : List (Str × Value)) : Room k (A.under (.builtin "type.__call__" ⟨.ref C :: us, kw⟩)) :=
  ⟨r.hd, by have := r.dp; rw [make_depth]; omega, by have := r.un; rw [make_units]; omega⟩
theorem Room.depth {k : Nat} {A : Around} (r : Room k A) : A.depth < recursionLimit := by have := r.dp; omega
theorem Room.units {k : Nat} {A : Around} (r : Room k A) : A.units + 64 < cLine := by have := r.un; omega
def tNil : TA := fun _ H Q => Q [] H
def tCons (ta : TE) (tr : TA) : TA := fun σ H Q => ta σ H fun x H1 => tr σ H1 fun xs H2 => Q (x :: xs) H2
section
variable {X : Cx} {e : Expr} {es : List Expr} {te : TE} {t : TA} {pos : Pos}
theorem pa_nil : PA X [] tNil := fun _ _ _ _ H Q I h => Calls.spliced_nil ⟨[], H, I, .nil, h⟩
theorem pa_cons (ha : PE X e te) (hr : PA X es t) (hs : starEach (e :: es) X.env = (false, eval e X.env) :: starEach es X.env := by rfl) : PA X (e :: es) (tCons te t) := by
  intro pos pins s σ H Q I h
  rw [hs]
  show wpAny _ _ (spliced ((false, eval e X.env) :: backTo pos (starEach es X.env))) _ _ s
  refine Calls.spliced_cons (thn (ha pins s σ H _ I h) fun u s1 ⟨x, H1, I1, r1, q1⟩ => ?_)
  exact thn (hr pos pins s1 σ H1 _ I1 q1) fun us s2 ⟨xs, H2, I2, r2, q2⟩ => ⟨x :: xs, H2, I2, .cons r1 r2, q2⟩

def tTup (t : TA) : TE := fun σ H Q => t σ H fun xs H1 => xs.length ≤ sizeLine ∧ ∀ p, H1 p = none → Q (.ref p) (upd H1 p (.tup xs))
def tLst (t : TA) : TE := fun σ H Q => t σ H fun xs H1 => xs.length ≤ sizeLine ∧ ∀ p, H1 p = none → Q (.ref p) (upd H1 p (.lst xs))
theorem pe_tup {x1} (h : PA X es t) : PE X (.Tuple es x1 pos) (tTup t) := by
  intro pins s σ H Q I hq
  refine wpAny_Tuple_spliced (thn (h pos pins s σ H _ I hq) fun us s1 ⟨xs, H1, I1, r, z, q⟩ => ⟨by rw [← r.length]; exact z, ?_⟩)
  have hf : H1 s1.heap.objs.size = none := I1.hok.fresh (Nat.le_refl _)
  refine ⟨.ref s1.heap.objs.size, upd H1 s1.heap.objs.size (.tup xs), I1.laid (t' := s1.toks) (fun b u e => Heap.get?_push_of_some _ e) (Nat.le_refl _) ?_, rfl, q _ hf⟩
  exact ⟨z, us, r, ⟨_, Heap.get?_push_size _ rfl, rfl, _, rfl⟩⟩
theorem pe_lst (h : PA X es t) : PE X (.List es pos) (tLst t) := by
  intro pins s σ H Q I hq
  refine wpAny_List_spliced (thn (h pos pins s σ H _ I hq) fun us s1 ⟨xs, H1, I1, r, z, q⟩ => ⟨by rw [← r.length]; exact z, ?_⟩)
  have hf : H1 s1.heap.objs.size = none := I1.hok.fresh (Nat.le_refl _)
  refine ⟨.ref s1.heap.objs.size, upd H1 s1.heap.objs.size (.lst xs), I1.laid (t' := s1.toks) (fun b u e => Heap.get?_push_of_some _ e) (Nat.le_refl _) ?_, rfl, q _ hf⟩
  exact ⟨z, us, 0, r, Heap.get?_push_size _ rfl⟩
end
abbrev Sp := List V → Hp → VK → XK → Prop
abbrev CXT := List Env → Hp → Shared → XK → Value → Shared → Prop

structure Env0 (P : Program) (w : World) (K : PySem.W.Frag) (mg : Str → Option Value) (base : Heap) (A : Around) (outer : List Env) (s : Shared) (H : Hp) : Prop where
  frames : A.frames = some outer
  mod : Mod K mg base
  bs : ∀ b o, base.get? b = some o → s.heap.get? b = some o ∧ H b = none
  bsz : base.objs.size ≤ s.heap.objs.size
  funs : s.heap.FunFrames base outer
  frf : ∀ b ∈ frs outer, H b = none
  hok : HOk P w H s.heap
  bare : AllBare s.gens
def CE (outer : List Env) (P : Program) (w : World) (H : Hp) (s : Shared) (Q : VK) (u : Value) (s' : Shared) : Prop :=
  ∃ v H', s'.os = s.os ∧ AllBare s'.gens ∧ Un (frs outer) [] H H' s.heap s'.heap ∧ HOk P w H' s'.heap ∧ RelV v u ∧ Q v H'
def CR (CX : CXT) (outer : List Env) (P : Program) (w : World) (H : Hp) (s : Shared) (Q : VK) (E : XK) (r : Result) (s' : Shared) : Prop :=
  match r with
  | .ok (.ret u) => CE outer P w H s Q u s'
  | .ok _ => False
  | .error e => CX outer H s E e s'
structure FnOk (P : Program) (w : World) (K : PySem.W.Frag) (mg : Str → Option Value) (base : Heap) (CX : CXT) (k : Nat) (f : Addr) (fd : FuncData) (ps : List Str) (sp : Sp) : Prop where
  len : ∀ vs H Q E, sp vs H Q E → vs.length = ps.length
  run : ∀ (A : Around) (outer : List Env) (s : Shared) (H : Hp) (args : Args) (us : List Value) (vs : List V) (Q : VK) (E : XK), Room k A → Env0 P w K mg base A outer s H → BindsTo s fd args (ps.zip us) → Vals vs us → sp vs H Q E →
    codeAny (model P w) A (.call (.ref f) args) (CR CX outer P w H s Q E) s
theorem FnOk.mono {P : Program} {w : World} {K : PySem.W.Frag} {mg : Str → Option Value} {base : Heap} {CX : CXT} {j k : Nat} {f : Addr} {fd : FuncData} {ps : List Str} {sp : Sp} (F : FnOk P w K mg base CX j f fd ps sp) (h : j ≤ k) :
    FnOk P w K mg base CX k f fd ps sp := ⟨F.len, fun A outer s H args us vs Q E hr => F.run A outer s H args us vs Q E (hr.mono h)⟩
theorem FnOk.imp {P : Program} {w : World} {K : PySem.W.Frag} {mg : Str → Option Value} {base : Heap} {CX : CXT} {k : Nat} {f : Addr} {fd : FuncData} {ps : List Str} {sp sp' : Sp} (F : FnOk P w K mg base CX k f fd ps sp)
    (h : ∀ vs H Q E, sp' vs H Q E → sp vs H Q E) : FnOk P w K mg base CX k f fd ps sp' :=
  ⟨fun vs H Q E q => F.len vs H Q E (h _ _ _ _ q), fun A outer s H args us vs Q E hr he hb hv hs => F.run A outer s H args us vs Q E hr he hb hv (h _ _ _ _ hs)⟩

theorem Env0.make {P : Program} {w : World} {K : PySem.W.Frag} {mg : Str → Option Value} {base : Heap} {A : Around} {outer : List Env} {s : Shared} {H : Hp} (e : Env0 P w K mg base A outer s H) (C : Addr) (us : List Value) (kw : List (Str × Value)) :
    Env0 P w K mg base (A.under (.builtin "type.__call__" ⟨.ref C :: us, kw⟩)) outer s H := ⟨by first | exact e.frames | (simpa [Around.under, Code.envs, Code.isFrame, pushEnvs] using e.frames), e.mod, e.bs, e.bsz, e.funs, e.frf, e.hok, e.bare⟩
theorem Env0.in1 {P : Program} {w : World} {K : PySem.W.Frag} {mg : Str → Option Value} {base : Heap} {A : Around} {outer : List Env} {s : Shared} {H : Hp} (e : Env0 P w K mg base A outer s H) :
    Env0 P w K mg base A.in1 outer s H := ⟨e.frames, e.mod, e.bs, e.bsz, e.funs, e.frf, e.hok, e.bare⟩

section
variable {X : Cx} {pins : List (Addr × Obj)} {σ : St} {H : Hp} {s s' : Shared}
theorem Inv.env0 (I : Inv X pins σ H s) : Env0 X.prog X.w X.K X.mg X.base X.A X.stack s H :=
  ⟨I.ok.frames, I.ok.mod, I.bs, Nat.le_trans I.ok.bsz I.sz, I.stack, I.stkFree, I.hok, I.bare⟩
theorem Inv.after {Q : VK} {u : Value} (I : Inv X pins σ H s) (h : CE X.stack X.prog X.w H s Q u s') : EP X pins σ Q u s' := by
  obtain ⟨v, H', os, bare, un, hok, r, q⟩ := h
  obtain ⟨hh, g, d, t, os'⟩ := s'
  obtain rfl : os' = s.os := os
  exact ⟨v, H', I.call (h' := hh) (g' := g) (d' := d) (t' := t) (ch := []) un hok bare (fun b z => absurd z (by simp)), r, q⟩
end
def tCall (sp : Sp) (dvs : List V) (E : XK) (t : TA) : TE := fun σ H Q => t σ H fun vs H1 => sp (vs ++ dvs) H1 Q E
def tMake (C : Addr) (sp : Sp) (dvs : List V) (E : XK) (t : TA) : TE := fun σ H Q => t σ H fun vs H1 => ∀ x dx, H1 x = none → H1 dx = none → dx ≠ x →
  sp (.ref x :: (vs ++ dvs)) (upd (upd H1 dx (.own x)) x (.ins C dx [])) (fun v H2 => v = .non ∧ Q (.ref x) H2) E

def Binds (K : PySem.W.Frag) (fd : FuncData) (ps : List Str) (ds : List Value) : Prop :=
  ∀ (s : Shared) (us : List Value), K.In s.heap → (us ++ ds).length = ps.length → BindsTo s fd ⟨us, []⟩ (ps.zip (us ++ ds))
theorem Binds.all {K : PySem.W.Frag} {fd : FuncData} {ps : List Str} (h : ∀ us : List Value, us.length = ps.length → bindArgs fd ⟨us, []⟩ = pure (ps.zip us)) : Binds K fd ps [] := fun s us _ hl => by
  rw [List.append_nil] at hl ⊢
  exact .of_eq (h us hl)

def Passes (CX : CXT) (X : Cx) (E : XK) : Prop := ∀ (pins : List (Addr × Obj)) (σ : St) (H : Hp) (s : Shared) (e : Value) (s' : Shared), Inv X pins σ H s → CX X.stack H s E e s' → X.xe e s'

section
variable {X : Cx} {CX : CXT} {k : Nat} {f C : Addr} {fd : FuncData} {ps : List Str} {sp : Sp} {dvs : List V} {ds : List Value} {E : XK} {x m : Str} {p pos apos : Pos} {e o : Expr} {es : List Expr} {ta : TE} {t : TA}
theorem run_fn {pins : List (Addr × Obj)} {σ : St} {H : Hp} {s : Shared} {Q : VK} {us : List Value} {vs : List V} (F : FnOk X.prog X.w X.K X.mg X.base CX k f fd ps sp) (hr : Room k X.A) (hb : Binds X.K fd ps ds) (hd : Vals dvs ds) (hx : Passes CX X E)
    (I : Inv X pins σ H s) (r : Vals vs us) (h : sp (vs ++ dvs) H Q E) : wpAny (model X.prog X.w) X.A (call (.ref f) us) (EP X pins σ Q) X.xe s := by
  have r2 : Vals (vs ++ dvs) (us ++ ds) := r.append hd
  have hl : (us ++ ds).length = ps.length := by rw [← r2.length]; exact F.len _ _ _ _ h
  refine wpAny_call (codeAny_mono (F.run X.A X.stack s H ⟨us, []⟩ (us ++ ds) (vs ++ dvs) Q E hr I.env0 (hb s us I.kIn hl) r2 h) fun r s' hq => ?_)
  cases r with
  | error e => exact hx pins σ H s e s' I hq
  | ok fl =>
    cases fl with
    | ret u => exact I.after hq
    | next => exact False.elim hq
    | brk => exact False.elim hq
    | cont => exact False.elim hq

theorem pe_call (F : FnOk X.prog X.w X.K X.mg X.base CX k f fd ps sp) (hr : Room k X.A) (hg : Gl X x) (hm : X.mg x = some (.ref f)) (hk : PySem.W.keepIn X.K (.ref f) = true) (hb : Binds X.K fd ps ds) (hd : Vals dvs ds) (hx : Passes CX X E)
    (ha : PA X (e :: es) t) (hdb : (x == ("__debug__" : Str)) = false := by decide) (he : starEach (e :: es) X.env = (false, eval e X.env) :: starEach es X.env := by rfl) (hpl : (backTo pos (starEach es X.env)).any (·.1) = false := by rfl) :
    PE X (.Call (.Name x p) (e :: es) [] pos) (tCall sp dvs E t) := by
  intro pins s σ H Q I h
  refine wpAny_Call_Name_kw (ld_glob I hg hm ?_ hdb)
  refine PySem.W.callWith_K (h₀ := X.base) I.ok.mod.kin hk (thn (ha pos pins s σ H _ I h) fun us s1 ⟨vs, H1, I1, r, q⟩ => ⟨I1.kIn, ?_⟩) he hpl
  exact run_fn F hr hb hd hx I1 r q
structure Mk (K : PySem.W.Frag) (C f : Addr) : Prop where
  makes : PySem.W.makesIn K C = true
  init : PySem.W.findIn K (.ref C) "__init__" = some (some (.ref f))
  fn : PySem.W.isFn K (.ref f) = true
  kp : PySem.W.keepIn K (.ref C) = true

theorem run_make {pins : List (Addr × Obj)} {σ : St} {H : Hp} {s : Shared} {Q : VK} {us : List Value} {vs : List V} (M : Mk X.K C f) (F : FnOk X.prog X.w X.K X.mg X.base CX k f fd ps sp) (hr : Room (k + 1) X.A) (hb : Binds X.K fd ps ds) (hd : Vals dvs ds)
    (hx : Passes CX X E) (I : Inv X pins σ H s) (r : Vals vs us)
    (h : ∀ x dx, H x = none → H dx = none → dx ≠ x → sp (.ref x :: (vs ++ dvs)) (upd (upd H dx (.own x)) x (.ins C dx [])) (fun v H2 => v = .non ∧ Q (.ref x) H2) E) :
    wpAny (model X.prog X.w) X.A (call (.ref C) us) (EP X pins σ Q) X.xe s := by
  have hq := h (s.heap.objs.size + 1) s.heap.objs.size (I.hok.fresh (Nat.le_succ _)) (I.hok.fresh (Nat.le_refl _)) (Nat.ne_of_lt (Nat.lt_succ_self _))
  have I2 := Inv.made (C := C) I
  have r2 : Vals (V.ref (s.heap.objs.size + 1) :: (vs ++ dvs)) (Value.ref (s.heap.objs.size + 1) :: (us ++ ds)) := .cons rfl (r.append hd)
  have hl : (Value.ref (s.heap.objs.size + 1) :: us ++ ds).length = ps.length := by
    have e := r2.length
    rw [F.len _ _ _ _ hq] at e
    exact e.symm
  refine wpAny_call (make_map (f := f) I.kIn M.makes M.init (beq_iff_eq.mp M.fn) (codeAny_mono (F.run _ X.stack _ _ ⟨Value.ref (s.heap.objs.size + 1) :: us, []⟩ (Value.ref (s.heap.objs.size + 1) :: (us ++ ds)) _ _ E (hr.make C us [])
    (I2.env0.make C us []) (hb _ (Value.ref (s.heap.objs.size + 1) :: us) I2.kIn hl) r2 hq) fun r s' hq' => ?_))
  cases r with
  | error e => exact hx pins σ _ _ e s' I2 hq'
  | ok fl =>
    cases fl with
    | ret u =>
      obtain ⟨v, H', I3, rv, ev, q3⟩ := I2.after hq'
      subst ev
      exact ⟨rv, ⟨V.ref (s.heap.objs.size + 1), H', I3, rfl, q3⟩⟩
    | next => exact False.elim hq'
    | brk => exact False.elim hq'
    | cont => exact False.elim hq'
theorem pe_make (M : Mk X.K C f) (F : FnOk X.prog X.w X.K X.mg X.base CX k f fd ps sp) (hr : Room (k + 1) X.A) (hg : Gl X x) (hm : X.mg x = some (.ref C)) (hb : Binds X.K fd ps ds) (hd : Vals dvs ds) (hx : Passes CX X E)
    (ha : PA X (e :: es) t) (hdb : (x == ("__debug__" : Str)) = false := by decide) (he : starEach (e :: es) X.env = (false, eval e X.env) :: starEach es X.env := by rfl) (hpl : (backTo pos (starEach es X.env)).any (·.1) = false := by rfl) :
    PE X (.Call (.Name x p) (e :: es) [] pos) (tMake C sp dvs E t) := by
  intro pins s σ H Q I h
  refine wpAny_Call_Name_kw (ld_glob I hg hm ?_ hdb)
  refine PySem.W.callWith_K (h₀ := X.base) I.ok.mod.kin M.kp (thn (ha pos pins s σ H _ I h) fun us s1 ⟨vs, H1, I1, r, q⟩ => ⟨I1.kIn, ?_⟩) he hpl
  exact run_make M F hr hb hd hx I1 r q
end
section
variable {X : Cx} {CX : CXT} {k : Nat} {f C : Addr} {fd : FuncData} {ps ks : List Str} {sp : Sp} {E : XK} {x m : Str} {p pos apos kpos : Pos} {e o : Expr} {es : List Expr} {kws : List Keyword} {te ta : TE} {t tk : TA} {nm : Option Str}
variable {g : List Value → List Value → List Value} {gV : List V → List V → List V}
end
structure FnScope (N P : List Str) (sc : Scope) : Prop where
  kind : sc.kind = .function
  co : sc.isCoroutine = false
  gen : sc.isGenerator = false
  nd : N.Nodup
  pre : N.take P.length = P
  par : ∀ x ∈ P, sc.names.lookup x = some .local ∨ sc.names.lookup x = some .cell
  nofree : ∀ y ∈ sc.names, y.2 ≠ .free

theorem bindL_out {kindOf : Str → Option NameKind} {x : Str} : ∀ {binds : List (Str × Value)} {m : Str → Option Value}, (∀ v, (x, v) ∉ binds) → bindL kindOf binds m x = m x
  | [], _, _ => rfl
  | (n, v) :: r, m, h => by
    unfold bindL
    rw [bindL_out fun w hw => h w (List.mem_cons_of_mem _ hw)]
    split
    · have : x ≠ n := by rintro rfl; exact h v List.mem_cons_self
      simp [this]
    · rfl
theorem bindC_out {kindOf : Str → Option NameKind} {x : Str} : ∀ {binds : List (Str × Value)} {m : Str → Option Value}, (∀ v, (x, v) ∉ binds) → bindC kindOf binds m x = m x
  | [], _, _ => rfl
  | (n, v) :: r, m, h => by
    unfold bindC
    rw [bindC_out fun w hw => h w (List.mem_cons_of_mem _ hw)]
    split
    · rfl
    · have : x ≠ n := by rintro rfl; exact h v List.mem_cons_self
      simp [this]
theorem bindL_get {kindOf : Str → Option NameKind} {x : Str} {v : Value} : ∀ {P : List Str} {vs : List Value} {i : Nat} {m : Str → Option Value}, P.Nodup → P[i]? = some x → vs[i]? = some v → kindOf x = some .local →
    bindL kindOf (P.zip vs) m x = some v
  | [], _, _, _, _, h, _, _ => by simp at h
  | _ :: _, [], _, _, _, _, h, _ => by simp at h
  | p :: P, w :: vs, 0, m, nd, h1, h2, hk => by
    simp at h1 h2; subst h1; subst h2
    show bindL kindOf ((p, w) :: P.zip vs) m p = _
    unfold bindL
    rw [bindL_out fun v hv => (List.nodup_cons.mp nd).1 (List.of_mem_zip hv).1, if_pos hk]
    simp
  | p :: P, w :: vs, i + 1, m, nd, h1, h2, hk => by
    show bindL kindOf ((p, w) :: P.zip vs) m x = _
    unfold bindL
    exact bindL_get (i := i) (List.nodup_cons.mp nd).2 (by simpa using h1) (by simpa using h2) hk
theorem bindC_get {kindOf : Str → Option NameKind} {x : Str} {v : Value} : ∀ {P : List Str} {vs : List Value} {i : Nat} {m : Str → Option Value}, P.Nodup → P[i]? = some x → vs[i]? = some v → kindOf x ≠ some .local →
    bindC kindOf (P.zip vs) m x = some v
  | [], _, _, _, _, h, _, _ => by simp at h
  | _ :: _, [], _, _, _, _, h, _ => by simp at h
  | p :: P, w :: vs, 0, m, nd, h1, h2, hk => by
    simp at h1 h2; subst h1; subst h2
    show bindC kindOf ((p, w) :: P.zip vs) m p = _
    unfold bindC
    rw [bindC_out fun v hv => (List.nodup_cons.mp nd).1 (List.of_mem_zip hv).1, if_neg hk]
    simp
  | p :: P, w :: vs, i + 1, m, nd, h1, h2, hk => by
    show bindC kindOf ((p, w) :: P.zip vs) m x = _
    unfold bindC
    exact bindC_get (i := i) (List.nodup_cons.mp nd).2 (by simpa using h1) (by simpa using h2) hk

def start (N : List Str) (vs : List V) : St := vs.map some ++ List.replicate (N.length - vs.length) none

def cxOf (CX : CXT) (P : Program) (w : World) (K : PySem.W.Frag) (mg : Str → Option Value) (base : Heap) (N : List Str) (qual : Str) (scope : Scope) (f : Addr) (cd : Value) (A : Around) (outer : List Env) (s : Shared) (H : Hp) (E : XK) : Cx where
  prog := P
  w := w
  K := K
  mg := mg
  base := base
  A := A.deeper (envOfC qual scope s.heap.objs.size f cd)
  N := N
  s_0 := s
  H_0 := H
  env := envOfC qual scope s.heap.objs.size f cd
  outer := outer
  stack := envOfC qual scope s.heap.objs.size f cd :: outer
  ex := []
  calm := true
  fn := fun _ => true
  pn := []
  xe := fun e s' => wpAny (model P w) (A.deeper (envOfC qual scope s.heap.objs.size f cd)) (leaving (envOfC qual scope s.heap.objs.size f cd) e) (fun _ s'' => CX outer H s E e s'') (fun e' s'' => CX outer H s E e' s'') s'

theorem cell_has {sc : Scope} {n : Nat} {x : Str} (h : sc.names.lookup x = some .cell) : ∃ c, (cellsFrom n sc.names []).lookup x = some c := by
  have q := PySem.W.cellsFrom_some sc.names n [] (.inl h)
  exact Option.isSome_iff_exists.mp q

theorem inv_start {CX : CXT} {P : Program} {w : World} {K : PySem.W.Frag} {mg : Str → Option Value} {base : Heap} {N ps : List Str} {qual : Str} {scope : Scope} {f : Addr} {cd : Value} {A : Around} {outer : List Env} {s s1 : Shared} {H : Hp} {E : XK} {us : List Value} {vs : List V}
    (S : FnScope N ps scope) (hd : A.handled = none) (e0 : Env0 P w K mg base A outer s H) (hl : vs.length = ps.length) (r : Vals vs us)
    (x : InCallC s s.heap.objs.size (bindL (envOfC qual scope s.heap.objs.size f cd).kindOf (ps.zip us) fun _ => none) (cellsFrom (s.heap.objs.size + 1) scope.names []) (bindC (envOfC qual scope s.heap.objs.size f cd).kindOf (ps.zip us) fun _ => none) s1) :
    Inv (cxOf CX P w K mg base N qual scope f cd A outer s H E) [] (start N vs) H s1 := by
  have hpl : ps.length ≤ N.length := by have := congrArg List.length S.pre; rw [List.length_take] at this; omega
  obtain ⟨h1, tk, rfl, hk⟩ := x.done
  have noA : ∀ b : Addr, b ∉ (cxOf CX P w K mg base N qual scope f cd A outer s H E).ex := fun b z => absurd (show b ∈ ([] : List Addr) from z) (by simp)
  refine ⟨⟨e0.mod, S.kind, rfl, rfl, Nat.le_refl _, fun y z c h1 h2 => ?_, fun y hy => ?_, fun y c _ h => ?_, fun _ => hd, Around.frames_deeper e0.frames, .inr ⟨rfl, rfl⟩, fun b z => absurd z (noA b), e0.bs, e0.bsz, fun b _ _ => noA b, fun b z => absurd z (noA b), e0.funs, e0.frf⟩,
    rfl, e0.bare, Un.kept hk, ⟨_, x.toInCall.ns, fun i y v h1 h2 h3 => ?_⟩, fun y c h => ⟨_, x.cell y c h⟩, e0.hok.fresh (Nat.le_refl _), fun y c h => ?_, fun p hp => absurd (show p ∈ ([] : List (Addr × Obj)) from hp) (by simp), e0.hok.kept hk, ?_⟩
  · exact name_of_addr x.apart (PySem.mem_of_lookup h1) (PySem.mem_of_lookup h2)
  · have hy : scope.names.lookup y = some .cell ∨ scope.names.lookup y = some .free := hy
    rcases hy with hy | hy
    · exact cell_has hy
    · exact absurd rfl (S.nofree _ (PySem.mem_of_lookup hy))
  · exact Nat.le_of_lt (x.above y c (PySem.mem_of_lookup h))
  · have hi : i < vs.length := by
      unfold start at h2
      by_cases hi : i < vs.length
      · exact hi
      · rw [List.getElem?_append_right (by simpa using hi)] at h2
        rw [List.getElem?_replicate] at h2
        split at h2 <;> cases h2
    have ha : vs[i]? = some v := by
      unfold start at h2
      rw [List.getElem?_append_left (by simpa using hi), List.getElem?_map] at h2
      cases e : vs[i]? with
      | none => rw [e] at h2; cases h2
      | some a => rw [e] at h2; cases h2; rfl
    obtain ⟨u, hu, rv⟩ := r.get ha
    have hp : ps[i]? = some y := by
      rw [← S.pre, List.getElem?_take_of_lt (by omega)]; exact h1
    have ndP : ps.Nodup := by rw [← S.pre]; exact S.nd.sublist (List.take_sublist _ _)
    refine ⟨u, rv, ?_⟩
    rcases S.par y (List.mem_of_getElem? hp) with k | k
    · exact .inl ⟨k, bindL_get ndP hp hu k⟩
    · obtain ⟨c, e⟩ := cell_has (n := s.heap.objs.size + 1) k
      refine .inr ⟨.inl k, c, e, ?_⟩
      have q := x.cell y c e
      rw [bindC_get ndP hp hu (by show scope.names.lookup y ≠ _; rw [k]; decide)] at q
      exact q
  · exact e0.hok.fresh (Nat.le_of_lt (x.above y c (PySem.mem_of_lookup h)))
  · unfold start
    show _ = N.length
    rw [List.length_append, List.length_map, List.length_replicate]
    omega

theorem fn_of {CX : CXT} {P : Program} {w : World} {K : PySem.W.Frag} {mg : Str → Option Value} {base : Heap} {k : Nat} {f : Addr} {name qual : Str} {params : Arguments} {body : List Stmt} {scope : Scope} {dV kV doc pm cdv ct oc : Value} {an od : Option Addr}
    {osl : Array (Option Value)} {N ps : List Str} {sp : Sp} (lk : K.lookup f = some ⟨oc, od, .func (PySem.W.fnOf name qual params body scope dV kV doc pm an cdv ct), osl⟩) (hcd : PySem.W.codeIn K cdv qual = true) (S : FnScope N ps scope)
    (len : ∀ vs H Q E, sp vs H Q E → vs.length = ps.length)
    (hbody : ∀ (A : Around) (outer : List Env) (s : Shared) (H : Hp) (vs : List V) (Q : VK) (E : XK), Room k (A.deeper (envOfC qual scope s.heap.objs.size f cdv)) → sp vs H Q E →
      ∃ t, PSs (cxOf CX P w K mg base N qual scope f cdv A outer s H E) body t ∧ t { nx := fun _ H' => Q .non H', rt := Q } (start N vs) H) :
    FnOk P w K mg base CX (k + 1) f (PySem.W.fnOf name qual params body scope dV kV doc pm an cdv ct) ps sp := by
  refine ⟨len, fun A outer s H args us vs Q E hr e0 hb r hsp => ?_⟩
  have hl := len _ _ _ _ hsp
  have KX : K.In s.heap := e0.mod.kin.keeps fun b o e => (e0.bs b o e).1
  have lim : s.heap.NoLimit := e0.mod.nolimit.keeps fun b o e => (e0.bs b o e).1
  have hkind : ∀ y ∈ ps.zip us, scope.names.lookup y.1 = some .local ∨ (scope.names.lookup y.1 = some .cell ∧ ((cellsFrom (s.heap.objs.size + 1) scope.names []).lookup y.1).isSome = true) := fun ⟨n, v⟩ hy => by
    rcases S.par n (List.of_mem_zip hy).1 with q | q
    · exact .inl q
    · exact .inr ⟨q, PySem.W.cellsFrom_some _ _ _ (.inl q)⟩
  refine codeAny_call_function hr.depth (KX _ _ lk) rfl S.co S.gen rfl (PySem.W.codeRec_of KX hcd) (hb _ _ _ _ ?_)
  refine wpAny_newFunctionEnv_cells S.kind hkind fun env he s1 x => ?_
  subst he
  refine ⟨lim.keeps x.toInCall.keep, codeAny_func ?_⟩
  obtain ⟨t, ht, hq⟩ := hbody A outer s H vs Q E (hr.deeper _) hsp
  have I : Inv (cxOf CX P w K mg base N qual scope f cdv A outer s H E) [] (start N vs) H s1 := inv_start S hr.hd e0 hl r x
  refine wpAny_mono (ht [] s1 (start N vs) H _ I hq) (fun fl s' hs => ?_) fun e s' hs => hs
  have fin : ∀ {σ' : St} {H' : Hp} {v : V} {u : Value}, Inv (cxOf CX P w K mg base N qual scope f cdv A outer s H E) [] σ' H' s' → RelV v u → Q v H' → CE outer P w H s Q u s' :=
    fun {σ' H' v u} J rv q => ⟨v, H', J.os, J.bare, J.base, J.hok, rv, q⟩
  cases fl with
  | ret u =>
    obtain ⟨v, σ', H', J, rv, q⟩ := hs
    exact fin J rv q
  | next =>
    obtain ⟨σ', H', J, q⟩ := hs
    exact fin (v := V.non) (u := Value.none) J rfl q
  | brk =>
    obtain ⟨_, _, _, q⟩ := hs
    exact False.elim q
  | cont =>
    obtain ⟨_, _, _, q⟩ := hs
    exact False.elim q
end L2
namespace L2
open PySem PySem.Spec PyProof.Rows
section
variable {X : Cx} {x : Str} {p pos : Pos} {e : Expr} {es : List Expr} {t : TA} {id T : String} {r : List V → Hp → VK → Prop}
def tCB (r : List V → Hp → VK → Prop) (t : TA) : TE := fun σ H Q => t σ H fun vs H1 => r vs H1 Q
theorem pe_callB (hc : CallR X (.builtin id) r) (hg : Gl X x) (hm : X.mg x = none) (hv : bootBuiltins x = some (.builtin id)) (ha : PA X (e :: es) t) (hn : x ≠ "__name__" := by decide) (hdb : (x == ("__debug__" : Str)) = false := by decide)
    (he : starEach (e :: es) X.env = (false, eval e X.env) :: starEach es X.env := by rfl) (hpl : (backTo pos (starEach es X.env)).any (·.1) = false := by rfl) : PE X (.Call (.Name x p) (e :: es) [] pos) (tCB r t) := by
  intro pins s σ H Q I h
  refine wpAny_Call_Name_kw (ld_blt I hg hm hv ?_ hn hdb)
  exact PyProof.Rows.callWith_builtin1 (thn (ha pos pins s σ H _ I h) fun us s1 ⟨vs, H1, I1, r1, q1⟩ => hc pins s1 σ H1 vs us Q I1 r1 q1) he hpl
end
end L2
namespace HT
open PySem PyProof.Rows
section
open PySem.SeqAt
open PySem.AutoSeq1 (wpAny_loadPart')
open PySem.MeetsSeq PySem.MeetsSeq2 PySem.MeetsSeq3
end
section
variable {prog : Program} {w : World} {A : Around} {E : Value → Shared → Prop} {s : Shared}
end
end HT
namespace L2
open PySem PySem.Spec PyProof.Rows
abbrev TO := St → Hp → (Option Int → Hp → Prop) → Prop
section
variable {X : Cx} {e : Expr} {te : TE} {lo hi : Option Expr} {tl th : TO} {pos p2 : Pos}
end
end L2
namespace L2
open PySem PySem.Spec PyProof.Rows
def MtR (X : Cx) (id : String) (r : V → List V → Hp → VK → Prop) : Prop :=
  ∀ (pins : List (Addr × Obj)) (s : Shared) (σ : St) (H : Hp) (x : V) (xs : List V) (v : Value) (us : List Value) (Q : VK), Inv X pins σ H s → RelV x v → Vals xs us → r x xs H Q →
    wpAny (model X.prog X.w) X.A (call (.builtin id) (v :: us)) (EP X pins σ Q) X.xe s
section
variable {X : Cx} {a b : Expr} {ta tb : TE} {pos : Pos}
theorem Inv.lst {pins : List (Addr × Obj)} {σ : St} {H : Hp} {s : Shared} {p : Addr} {xs : List V} (I : Inv X pins σ H s) (h : H p = some (.lst xs)) :
    ∃ (its : List Value) (n : Nat), Vals xs its ∧ s.heap.get? p = some { cls := .type "list", data := .seq its.toArray n } ∧ xs.length ≤ sizeLine := by
  obtain ⟨z, its, n, r, e⟩ := I.hok p _ h
  exact ⟨its, n, r, e, z⟩
def flatV : V → Bool
  | .non => true
  | .bl _ => true
  | .int _ => true
  | .str _ => true
  | _ => false
def eqV : V → V → Bool
  | .non, .non => true
  | .bl a, .bl b => a == b
  | .bl a, .int b => (if a then 1 else 0) == b
  | .int a, .bl b => a == (if b then 1 else 0)
  | .int a, .int b => a == b
  | .str a, .str b => a == b
  | _, _ => false
theorem eqAt_V {A : Around} {s : Shared} {y x : V} {u v : Value} (ry : RelV y u) (rx : RelV x v) (fy : flatV y = true) (fx : flatV x = true) : SeqAt.EqAt A s u v (eqV y x) := by
  cases y with
  | non =>
    cases ry
    cases x with
    | non => cases rx; exact SeqAt.EqAt.same _
    | bl b => cases rx; exact SeqAt.EqAt.none_bool b
    | int b => obtain ⟨t, rfl⟩ := rx; exact SeqAt.EqAt.none_int b t
    | str b => obtain ⟨t, rfl⟩ := rx; exact SeqAt.EqAt.none_str b t
    | _ => exact absurd (show false = true from fx) Bool.false_ne_true
  | bl a =>
    cases ry
    cases x with
    | non => cases rx; exact SeqAt.EqAt.bool_none a
    | bl b => cases rx; exact SeqAt.EqAt.bool_bool a b
    | int b => obtain ⟨t, rfl⟩ := rx; exact SeqAt.EqAt.bool_int a b t
    | str b => obtain ⟨t, rfl⟩ := rx; exact SeqAt.EqAt.bool_str a b t
    | _ => exact absurd (show false = true from fx) Bool.false_ne_true
  | int a =>
    obtain ⟨t', rfl⟩ := ry
    cases x with
    | non => cases rx; exact SeqAt.EqAt.int_none a t'
    | bl b => cases rx; exact SeqAt.EqAt.int_bool a t' b
    | int b => obtain ⟨t, rfl⟩ := rx; exact SeqAt.EqAt.int_int a t' b t
    | str b => obtain ⟨t, rfl⟩ := rx; exact SeqAt.EqAt.int_str a t' b t
    | _ => exact absurd (show false = true from fx) Bool.false_ne_true
  | str a =>
    obtain ⟨t', rfl⟩ := ry
    cases x with
    | non => cases rx; exact SeqAt.EqAt.str_none a t'
    | bl b => cases rx; exact SeqAt.EqAt.str_bool a t' b
    | int b => obtain ⟨t, rfl⟩ := rx; exact SeqAt.EqAt.str_int a t' b t
    | str b => obtain ⟨t, rfl⟩ := rx; exact SeqAt.EqAt.str_str a t' b t
    | _ => exact absurd (show false = true from fx) Bool.false_ne_true
  | _ => exact absurd (show false = true from fy) Bool.false_ne_true
def eqU (x : V) (u : Value) : Bool := match u with
  | .none => eqV .non x
  | .bool b => eqV (.bl b) x
  | .int i _ => eqV (.int i) x
  | .str z _ => eqV (.str z) x
  | _ => false
theorem eqU_of {x y : V} {u : Value} (r : RelV y u) (f : flatV y = true) : eqU x u = eqV y x := by
  cases y with
  | non => cases r; rfl
  | bl b => cases r; rfl
  | int i => obtain ⟨t, rfl⟩ := r; rfl
  | str z => obtain ⟨t, rfl⟩ := r; rfl
  | _ => exact absurd (show false = true from f) Bool.false_ne_true
theorem any_eqU {x : V} : ∀ {xs : List V} {us : List Value}, Vals xs us → xs.all flatV = true → us.any (eqU x) = xs.any fun y => eqV y x
  | _, _, .nil, _ => rfl
  | y :: xs, u :: us, .cons r t, f => by
    rw [List.all_cons, Bool.and_eq_true] at f
    rw [List.any_cons, List.any_cons, eqU_of r f.1, any_eqU t f.2]
theorem mem_eqAt {A : Around} {s : Shared} {x : V} {v : Value} (rx : RelV x v) (fx : flatV x = true) : ∀ {xs : List V} {us : List Value}, Vals xs us → xs.all flatV = true → ∀ u ∈ us, SeqAt.EqAt A s u v (eqU x u)
  | _, _, .nil, _ => fun u hu => by cases hu
  | y :: xs, u :: us, .cons r t, f => fun u' hu => by
    rw [List.all_cons, Bool.and_eq_true] at f
    rcases List.mem_cons.mp hu with rfl | hu
    · rw [eqU_of r f.1]; exact eqAt_V r rx f.1 fx
    · exact mem_eqAt rx fx t f.2 u' hu
def inV (x : V) (xs : List V) : Bool := xs.any fun y => eqV y x
def rIn (K : PySem.W.Frag) (neg : Bool) : R2 := fun x y H Q => ∃ p xs, y = .ref p ∧ (SqL K H p xs ∨ SqT K H p xs) ∧ flatV x = true ∧ xs.all flatV = true ∧ Q (.bl (if neg then !inV x xs else inV x xs)) H
theorem op_in_seq : OpR X (compareOp .In) (rIn X.K false) := by
  intro pins s σ H x y v u Q I rx ry h
  obtain ⟨p, xs, rfl, hq, fx, fs, q⟩ := h
  cases ry
  rcases hq with hq | hq
  · obtain ⟨its, r, pl, hz⟩ := I.list hq
    refine SeqAt.in_listAt (eqU x) pl.isList (fun w hw => mem_eqAt rx fx r fs w (by simpa using hw)) ⟨.bl _, H, I, rfl, ?_⟩
    rw [show its.toArray.any (eqU x) = its.any (eqU x) by simp, any_eqU r fs]
    exact q
  · obtain ⟨its, r, pl, hz⟩ := I.tuple hq
    refine SeqAt.in_tupleAt (eqU x) pl (fun w hw => mem_eqAt rx fx r fs w (by simpa using hw)) ⟨.bl _, H, I, rfl, ?_⟩
    rw [show its.toArray.any (eqU x) = its.any (eqU x) by simp, any_eqU r fs]
    exact q
theorem op_notIn_seq : OpR X (compareOp .NotIn) (rIn X.K true) := by
  intro pins s σ H x y v u Q I rx ry h
  obtain ⟨p, xs, rfl, hq, fx, fs, q⟩ := h
  cases ry
  rcases hq with hq | hq
  · obtain ⟨its, r, pl, hz⟩ := I.list hq
    refine SeqAt.notIn_listAt (eqU x) pl.isList (fun w hw => mem_eqAt rx fx r fs w (by simpa using hw)) ⟨.bl _, H, I, rfl, ?_⟩
    rw [show its.toArray.any (eqU x) = its.any (eqU x) by simp, any_eqU r fs]
    exact q
  · obtain ⟨its, r, pl, hz⟩ := I.tuple hq
    refine SeqAt.notIn_tupleAt (eqU x) pl (fun w hw => mem_eqAt rx fx r fs w (by simpa using hw)) ⟨.bl _, H, I, rfl, ?_⟩
    rw [show its.toArray.any (eqU x) = its.any (eqU x) by simp, any_eqU r fs]
    exact q
theorem call_len_seq : CallR X (.builtin "len") (fun xs H Q => ∃ p ys, xs = [.ref p] ∧ (SqL X.K H p ys ∨ SqT X.K H p ys) ∧ Q (.int ys.length) H) := by
  intro pins s σ H xs us Q I r h
  obtain ⟨p, ys, rfl, hq, q⟩ := h
  obtain ⟨u, rfl, rx⟩ := vals1 r
  cases rx
  have hn := line63
  rcases hq with hq | hq
  · obtain ⟨its, r', pl, hz⟩ := I.list hq
    have hlen := r'.length
    exact Calls.call_len_list pl.isList (by simp only [List.size_toArray] <;> omega) ⟨.int ys.length, H, I.tok _, ⟨s.toks + 1, by rw [List.size_toArray, hlen]⟩, q⟩
  · obtain ⟨its, r', pl, hz⟩ := I.tuple hq
    have hlen := r'.length
    exact len_tuple pl (by simp only [List.size_toArray] <;> omega) ⟨.int ys.length, H, I.tok _, ⟨s.toks + 1, by rw [List.size_toArray, hlen]⟩, q⟩
def tyV (K : PySem.W.Frag) (T : String) (x : V) (H : Hp) : Prop := match x with
  | .str _ => T = "str"
  | .int _ => T = "int"
  | .ref p => (T = "list" ∧ ∃ xs, SqL K H p xs) ∨ (T = "tuple" ∧ ∃ o, K.lookup p = some o ∧ o.cls = .type "tuple" ∧ o.dict = none) ∨
      (T = "dict" ∧ ((∃ kvs, H p = some (.dK kvs)) ∨ ∃ kvs, H p = some (.dT kvs))) ∨ (T = "set" ∧ ∃ S n, H p = some (.set S n))
  | _ => False
theorem tyV_is {pins : List (Addr × Obj)} {σ : St} {H : Hp} {s : Shared} {T : String} {x : V} {v : Value} (I : Inv X pins σ H s) (r : RelV x v) (ty : tyV X.K T x H) :
    s.TypeIs v T ∧ ∀ a, v = .ref a → ∃ ob, s.heap.get? a = some ob ∧ ob.dict = none := by
  cases x with
  | str z =>
    obtain ⟨t, rfl⟩ := r
    cases (show T = "str" from ty)
    exact ⟨typeIs_str s z t, fun _ e => nomatch e⟩
  | int i =>
    obtain ⟨t, rfl⟩ := r
    cases (show T = "int" from ty)
    exact ⟨typeIs_int s i t, fun _ e => nomatch e⟩
  | ref p =>
    cases r
    rcases ty with ⟨rfl, xs, hq⟩ | ⟨rfl, o, hk, hc, hd⟩ | ⟨rfl, hk⟩ | ⟨rfl, S, n, hk⟩
    · obtain ⟨its, _, pl, _⟩ := I.list hq
      refine ⟨pl.isList.typeIs, fun a e => ?_⟩
      cases e
      obtain ⟨o, n, e, c, hd, _⟩ := pl
      exact ⟨o, e, hd⟩
    · refine ⟨⟨o, I.kIn p o hk, hc⟩, fun a e => ?_⟩
      cases e
      exact ⟨o, I.kIn _ o hk, hd⟩
    · have z : ∃ o, s.heap.get? p = some o ∧ o.ExactDict := by
        rcases hk with ⟨kvs, hk⟩ | ⟨kvs, hk⟩
        · obtain ⟨_, _, _, _, o, _, _, e, ex, _⟩ := I.hok p _ hk
          exact ⟨o, e, ex⟩
        · obtain ⟨_, _, _, _, o, _, _, e, ex, _⟩ := I.hok p _ hk
          exact ⟨o, e, ex⟩
      obtain ⟨o, e, ex⟩ := z
      refine ⟨⟨o, e, ex.1⟩, fun a e2 => ?_⟩
      cases e2
      exact ⟨o, e, ex.2.1⟩
    · obtain ⟨o, _, _, _, e, ex, _⟩ := I.hok p _ hk
      refine ⟨⟨o, e, ex.1⟩, fun a e2 => ?_⟩
      cases e2
      exact ⟨o, e, ex.2.1⟩
  | _ => exact False.elim ty
def tBM (K : PySem.W.Frag) (T : String) (r : V → List V → Hp → VK → Prop) (to : TE) (t : TA) : TE := fun σ H Q => to σ H fun x H1 => tyV K T x H1 ∧ t σ H1 fun xs H2 => r x xs H2 Q
variable {o e : Expr} {es : List Expr} {to : TE} {t : TA} {name : Str} {apos cpos : Pos} {T id : String} {r : V → List V → Hp → VK → Prop}
theorem pe_bm (pa : PlainAttrs T) (slot : Slot T name id) (hty : typeOf (.builtin id) = pure (.type "method_descriptor")) (hm : MtR X id r) (ho : PE X o to) (ha : PA X (e :: es) t)
    (hbase : attributeBase o name X.env (eval o X.env) = eval o X.env := by rfl)
    (hfew : ((backTo cpos (starEach (e :: es) X.env)).all (fun x => !x.1) && (backToKw cpos (keywordEach [] X.env)).all (fun x => x.1.isSome)
      && decide ((e :: es).length + ([] : List Keyword).length + (if ([] : List Keyword).isEmpty then 0 else 1) < 30)) = true := by rfl)
    (hline : (apos.endLine == cpos.line) = true := by rfl) (hs : starEach (e :: es) X.env = (false, eval e X.env) :: starEach es X.env := by rfl) (hplain : (backTo cpos (starEach es X.env)).any (·.1) = false := by rfl) :
    PE X (.Call (.Attribute o name apos) (e :: es) [] cpos) (tBM X.K T r to t) := by
  intro pins s σ H Q I h
  refine wpAny_Call_method_late hbase hfew hline rfl (thn (ho pins s σ H _ I h) fun v s1 ⟨x, H1, I1, r1, ty, q1⟩ => ?_)
  obtain ⟨h1, h2⟩ := tyV_is I1 r1 ty
  refine ⟨T, id, pa, slot, hty, h1, h2, ?_⟩
  have hA := ha cpos pins s1 σ H1 _ I1 q1
  rw [hs] at hA ⊢
  refine Calls.callWith_builtin (by show (false || (backTo cpos (starEach es X.env)).any (·.1)) = false; rw [hplain] <;> rfl) (Calls.evalArgs_plain ?_)
  exact thn hA fun us s2 ⟨vs, H2, I2, r2, q2⟩ => hm pins s2 σ H2 x vs v us Q I2 r1 r2 q2
end
end L2
namespace L2
open PySem PySem.Spec PyProof.Rows
def MtM (X : Cx) (id : String) (r : V → List V → Hp → VK → Prop) : Prop :=
  ∀ (pins : List (Addr × Obj)) (s : Shared) (σ : St) (H : Hp) (x : V) (xs : List V) (v : Value) (us : List Value) (Q : VK), Inv X pins σ H s → RelV x v → Vals xs us → r x xs H Q →
    wpAny (model X.prog X.w) X.A (call (.builtin id) (v :: us)) (EP X pins σ Q) X.xe s

theorem Vals.one : ∀ {x : V} {us : List Value}, Vals [x] us → ∃ u, us = [u] ∧ RelV x u
  | _, _, .cons r .nil => ⟨_, rfl, r⟩
theorem Vals.two : ∀ {x y : V} {us : List Value}, Vals [x, y] us → ∃ u v, us = [u, v] ∧ RelV x u ∧ RelV y v
  | _, _, _, .cons r (.cons q .nil) => ⟨_, _, rfl, r, q⟩
theorem Vals.reverse {xs : List V} {us : List Value} (h : Vals xs us) : Vals xs.reverse us.reverse := by
  induction h with
  | nil => exact .nil
  | cons r t ih => rw [List.reverse_cons, List.reverse_cons]; exact Vals.append ih (.cons r .nil)
section
variable {X : Cx} {pins : List (Addr × Obj)} {σ : St} {H : Hp} {s : Shared} {l b : Addr} {xs ys zs : List V}
theorem Inv.lset {its its' : List Value} {n : Nat} {f : Array Value → Array Value} {t' : Nat} (I : Inv X pins σ H s) (hH : H l = some (.lst xs))
    (e : s.heap.get? l = some { cls := .type "list", data := .seq its.toArray n }) (hf : f its.toArray = its'.toArray) (hv : Vals ys its') (hz : ys.length ≤ sizeLine) :
    Inv X pins σ (upd H l (.lst ys)) { s with heap := s.heap.update l (Obj.mapSeq f), toks := t' } := by
  have q := PySem.IsL.update e f
  rw [hf] at q
  refine I.write (x := l) (e := l) (by rw [hH]; exact trivial) (.inl rfl) (fun b' u hb hu => (Heap.get?_update_other s.heap (Obj.mapSeq f) (Ne.symm hb)).trans hu) ⟨_, q⟩ ?_
  exact ⟨hz, its', _, hv, q⟩
theorem Inv.lnew {its : List Value} {t' : Nat} (I : Inv X pins σ H s) (hv : Vals ys its) (hz : ys.length ≤ sizeLine) :
    Inv X pins σ (upd H s.heap.objs.size (.lst ys)) { s with heap := s.heap.push { cls := .type "list", data := .seq its.toArray }, toks := t' } :=
  I.laid (fun _ _ q => Heap.get?_push_of_some _ q) (Nat.le_refl _) ⟨hz, its, 0, hv, Heap.get?_push_size _ rfl⟩
theorem Inv.fresh (I : Inv X pins σ H s) : H s.heap.objs.size = none := I.hok.fresh (Nat.le_refl _)
theorem Inv.lstM (I : Inv X pins σ H s) (hH : H l = some (.lst xs)) : xs.length ≤ sizeLine ∧ ∃ (its : List Value) (n : Nat), Vals xs its ∧ xs.length = its.length ∧ s.heap.get? l = some { cls := .type "list", data := .seq its.toArray n } := by
  obtain ⟨z, its, n, r, e⟩ := I.hok l _ hH
  exact ⟨z, its, n, r, r.length, e⟩

theorem notLongL {n : Nat} (h : n ≤ sizeLine) : Builtin.List.listTooLong n = false := by
  unfold Builtin.List.listTooLong
  exact decide_eq_false (by omega)
end
section
variable {X : Cx}
def rAppend : V → List V → Hp → VK → Prop := fun x vs H Q => ∃ l xs y, x = .ref l ∧ vs = [y] ∧ H l = some (.lst xs) ∧ xs.length < sizeLine ∧ Q .non (upd H l (.lst (xs ++ [y])))
theorem mt_append : MtM X "list.append" rAppend := by
  intro pins s σ H x vs v us Q I rx rv h
  obtain ⟨l, xs, y, rfl, rfl, hH, hz, q⟩ := h
  cases rx
  obtain ⟨u, rfl, ru⟩ := rv.one
  obtain ⟨z, its, n, r, hl, e⟩ := I.lstM hH
  refine call_meets F.slot_list_append ⟨_, e, rfl⟩ F.entry_list_append (F.args_list_append_2 _ _) (PySem.list_append l its.toArray n u (by rw [List.size_toArray]; omega)) ⟨e, ?_⟩
  refine ⟨.non, _, I.lset (its' := its ++ [u]) hH e (by simp) (r.append (.cons ru .nil)) ?_, rfl, q⟩
  rw [List.length_append, List.length_singleton]
  omega

def rCat : R2 := fun x y H Q => ∃ l b xs zs, x = .ref l ∧ y = .ref b ∧ H l = some (.lst xs) ∧ H b = some (.lst zs) ∧ xs.length + zs.length ≤ sizeLine ∧ ∀ p, H p = none → Q (.ref p) (upd H p (.lst (xs ++ zs)))
theorem op_cat : OpR X (binaryOp .Add) rCat := by
  intro pins s σ H x y v u Q I rx ry h
  obtain ⟨l, b, xs, zs, rfl, rfl, hH, hB, hz, q⟩ := h
  cases rx
  cases ry
  obtain ⟨z, its, n, r, hl, e⟩ := I.lstM hH
  obtain ⟨z2, its2, n2, r2, hl2, e2⟩ := I.lstM hB
  refine PySem.P.add_list e e2 ?_ (by rw [List.size_toArray, List.size_toArray]; omega)
  have ea : its.toArray ++ its2.toArray = (its ++ its2).toArray := by simp
  rw [ea]
  exact ⟨.ref _, _, I.lnew (t' := s.toks) (r.append r2) (by rw [List.length_append]; omega), rfl, q _ I.fresh⟩
end
section
variable {prog : Program} {w : World} {A : Around} {E : Value → Shared → Prop} {s : Shared}
end
section
variable {X : Cx}
end
end L2
namespace L2
open PySem PySem.Spec PyProof.Rows
theorem Vals.ints : ∀ {ns : List Int} {us : List Value}, Vals (ns.map V.int) us → IntsAre us ns
  | [], us, h => by
    rw [List.map_nil] at h
    cases h
    exact IntsAre.nil
  | n :: ns, us, h => by
    rw [List.map_cons] at h
    cases h with
    | cons r t =>
      obtain ⟨k, rfl⟩ := r
      exact IntsAre.cons n k (Vals.ints t)
section
variable {prog : Program} {w : World} {A : Around} {E : Value → Shared → Prop} {s : Shared} {l : Addr} {its : List Value} {ns : List Int} {Q : Value → Shared → Prop}
end
section
variable {X : Cx}
end
section
variable {X : Cx}
end
section
variable {X : Cx}
end
section
variable {X : Cx}
end
mutual
inductive Dp (K : PySem.W.Frag) (H : Hp) : V → PyData → Prop
  | non : Dp K H .non .none
  | bl (b : Bool) : Dp K H (.bl b) (.bool b)
  | int (i : Int) : Dp K H (.int i) (.int i)
  | str (x : Str) : Dp K H (.str x) (.str x)
  | lst {a : Addr} {xs : List V} {ds : List PyData} : SqL K H a xs → DpAll K H xs ds → Dp K H (.ref a) (.list ds)
  | tup {a : Addr} {xs : List V} {ds : List PyData} : SqT K H a xs → DpAll K H xs ds → Dp K H (.ref a) (.tuple ds)
inductive DpAll (K : PySem.W.Frag) (H : Hp) : List V → List PyData → Prop
  | nil : DpAll K H [] []
  | cons {v : V} {vs : List V} {d : PyData} {ds : List PyData} : Dp K H v d → DpAll K H vs ds → DpAll K H (v :: vs) (d :: ds)
end
section
variable {X : Cx} {pins : List (Addr × Obj)} {σ : St} {H : Hp} {s : Shared}
mutual
theorem Dp.reads (I : Inv X pins σ H s) : ∀ (d : PyData) (v : V) (u : Value), Dp X.K H v d → RelV v u → ∃ as, Reads s.heap u d as
  | .none, _, _, h, r => by
    cases h
    cases r
    exact ⟨_, Reads.none⟩
  | .bool b, _, _, h, r => by
    cases h
    cases r
    exact ⟨_, Reads.bool b⟩
  | .int i, _, _, h, r => by
    cases h
    obtain ⟨t, rfl⟩ := r
    exact ⟨_, Reads.int i t⟩
  | .str x, _, _, h, r => by
    cases h
    obtain ⟨t, rfl⟩ := r
    exact ⟨_, Reads.str x t⟩
  | .list ds, _, _, h, r => by
    cases h with
    | lst hs ha =>
      cases r
      obtain ⟨its, rv, ⟨o, n, ho, hc, _, hd⟩, _⟩ := I.list hs
      obtain ⟨as, hr⟩ := Dp.readsAll I ds _ its ha rv
      exact ⟨_, Reads.list ho hc hd hr⟩
  | .tuple ds, _, _, h, r => by
    cases h with
    | tup hs ha =>
      cases r
      obtain ⟨its, rv, ⟨o, ho, hc, n, hd⟩, _⟩ := I.tuple hs
      obtain ⟨as, hr⟩ := Dp.readsAll I ds _ its ha rv
      exact ⟨_, Reads.tuple ho hc hd hr⟩
  | .dict _, _, _, h, _ => by cases h
theorem Dp.readsAll (I : Inv X pins σ H s) : ∀ (ds : List PyData) (vs : List V) (us : List Value), DpAll X.K H vs ds → Vals vs us → ∃ as, ReadsAll s.heap us ds as
  | [], _, _, h, r => by
    cases h
    cases r
    exact ⟨_, ReadsAll.nil⟩
  | d :: ds, _, _, h, r => by
    cases h with
    | cons h1 h2 =>
      cases r with
      | cons r1 r2 =>
        obtain ⟨as, q1⟩ := Dp.reads I d _ _ h1 r1
        obtain ⟨bs, q2⟩ := Dp.readsAll I ds _ _ h2 r2
        exact ⟨_, ReadsAll.cons q1 q2⟩
end
end
section
variable {X : Cx}
end
end L2
namespace L2
open PySem PySem.Spec PyProof.Rows
section
variable {X : Cx} {pins : List (Addr × Obj)} {σ : St} {H : Hp} {s : Shared}
end
section
variable {X : Cx}
end
end L2
namespace L2
open PySem PySem.Spec PyProof.Rows
section
variable {prog : Program} {w : World} {A : Around} {R : Result → Shared → Prop} {s : Shared} {elt t0 i0 t1 i1 : Expr} {ifs0 ifs1 : List Expr} {scope : Scope} {pos : Pos} {it acc : Value} {env : Env}
end
section
variable {X : Cx}
end
end L2
namespace L2
open PySem PySem.Spec PyProof.Rows
section
variable {κ : Type} [DecidableEq κ]
def valV (kvs : List (κ × V)) (k : κ) : Option V := (kvs.find? fun kv => decide (kv.1 = k)).map (·.2)
def putK (kvs : List (κ × V)) (k : κ) (v : V) : List (κ × V) :=
  if (kvs.any fun kv => decide (kv.1 = k)) = true then kvs.map (fun kv => if kv.1 = k then (kv.1, v) else kv) else kvs ++ [(k, v)]
def dropK (kvs : List (κ × V)) (k : κ) : List (κ × V) := kvs.filter fun kv => decide (kv.1 ≠ k)

theorem valV_pos {p : κ × V} {r : List (κ × V)} {k : κ} (e : p.1 = k) : valV (p :: r) k = some p.2 := by simp [valV, List.find?_cons, e]
theorem valV_neg {p : κ × V} {r : List (κ × V)} {k : κ} (e : ¬ p.1 = k) : valV (p :: r) k = valV r k := by simp [valV, List.find?_cons, e]
theorem RelO.getD {o : Option V} {u : Option Value} {d : V} {d' : Value} (r : RelO o u) (rd : RelV d d') : RelV (o.getD d) (u.getD d') := by
  cases o with
  | none => cases u with
    | none => exact rd
    | some _ => exact (show False from r).elim
  | some _ => cases u with
    | none => exact (show False from r).elim
    | some _ => exact r

theorem KV.val {kvs : List (κ × V)} {vs : List (κ × Value)} (r : KV kvs vs) (k : κ) : RelO (valV kvs k) (valueAt vs k) := by
  unfold KV at r
  induction r with
  | nil => exact True.intro
  | @cons p q ps qs h t ih =>
    obtain ⟨h1, h2⟩ := h
    by_cases e : p.1 = k
    · have e' : q.1 = k := h1.symm.trans e
      have b : valueAt (q :: qs) k = some q.2 := by simp [valueAt, List.find?_cons, e']
      rw [valV_pos e, b]; exact h2
    · have e' : ¬ q.1 = k := fun z => e (h1.trans z)
      have b : valueAt (q :: qs) k = valueAt qs k := by simp [valueAt, List.find?_cons, e']
      rw [valV_neg e, b]; exact ih
theorem KV.any {kvs : List (κ × V)} {vs : List (κ × Value)} (r : KV kvs vs) (k : κ) : (kvs.any fun kv => decide (kv.1 = k)) = vs.any fun kv => decide (kv.1 = k) := by
  unfold KV at r
  induction r with
  | nil => rfl
  | cons h t ih => rw [List.any_cons, List.any_cons, ih, h.1]
theorem KV.drop {kvs : List (κ × V)} {vs : List (κ × Value)} (r : KV kvs vs) (k : κ) : KV (dropK kvs k) (without vs k) := by
  unfold KV at r ⊢
  unfold dropK without
  induction r with
  | nil => exact .nil
  | @cons p q ps qs h t ih =>
    obtain ⟨h1, h2⟩ := h
    rw [List.filter_cons, List.filter_cons]
    by_cases e : p.1 = k
    · have a : ¬ decide (p.1 ≠ k) = true := by simp [e]
      have b : ¬ decide (q.1 ≠ k) = true := by simp [h1.symm.trans e]
      rw [if_neg a, if_neg b]; exact ih
    · have e' : ¬ q.1 = k := fun z => e (h1.trans z)
      have a : decide (p.1 ≠ k) = true := by simp [e]
      have b : decide (q.1 ≠ k) = true := by simp [e']
      rw [if_pos a, if_pos b]; exact .cons ⟨h1, h2⟩ ih
theorem KV.keys {kvs : List (κ × V)} {vs : List (κ × Value)} (r : KV kvs vs) : kvs.map (·.1) = vs.map (·.1) := by
  unfold KV at r
  induction r with
  | nil => rfl
  | cons h t ih => rw [List.map_cons, List.map_cons, ih, h.1]
theorem KV.length {kvs : List (κ × V)} {vs : List (κ × Value)} (r : KV kvs vs) : kvs.length = vs.length := Paired.length r
end
abbrev KT (H : Hp) : List (List Key × V) → List (List Key × Addr × Value) → Prop := Paired fun p q => p.1 = q.1 ∧ H q.2.1 = some (.tup (p.1.map kV)) ∧ RelV p.2 q.2.2
theorem KT.val {H : Hp} {kvs : List (List Key × V)} {xs : List (List Key × Addr × Value)} (r : KT H kvs xs) (k : List Key) : RelO (valV kvs k) ((atKey xs k).map (·.2)) := by
  induction r with
  | nil => exact True.intro
  | @cons p q ps qs h t ih =>
    obtain ⟨h1, _, h2⟩ := h
    by_cases e : p.1 = k
    · have e' : q.1 = k := h1.symm.trans e
      have b : atKey (q :: qs) k = some q.2 := by simp [atKey, List.find?_cons, e']
      rw [valV_pos e, b]; exact h2
    · have e' : ¬ q.1 = k := fun z => e (h1.trans z)
      have b : atKey (q :: qs) k = atKey qs k := by simp [atKey, List.find?_cons, e']
      rw [valV_neg e, b]; exact ih
theorem KT.keeps {H H' : Hp} {kvs : List (List Key × V)} {xs : List (List Key × Addr × Value)} (r : KT H kvs xs) (ht : ∀ b ys, H b = some (.tup ys) → H' b = some (.tup ys)) : KT H' kvs xs :=
  Paired.mapP r fun _ _ z => ⟨z.1, ht _ _ z.2.1, z.2.2⟩

section
variable {P : Program} {w : World} {H : Hp} {h : Heap} {a : Addr}
end
def DGet (H : Hp) (a : Addr) (y : V) (r : Option V) : Prop :=
  (∃ kvs k, Rd H a (.dK kvs) ∧ y = kV k ∧ r = valV kvs k) ∨ ∃ kvs k b, Rd H a (.dT kvs) ∧ y = .ref b ∧ H b = some (.tup (k.map kV)) ∧ r = valV kvs k
def DPut (H : Hp) (a : Addr) (y v : V) (H' : Hp) : Prop :=
  (∃ kvs k, H a = some (.dK kvs) ∧ y = kV k ∧ kvs.length < sizeLine ∧ H' = upd H a (.dK (putK kvs k v))) ∨
  ∃ kvs k b, H a = some (.dT kvs) ∧ y = .ref b ∧ H b = some (.tup (k.map kV)) ∧ kvs.length < sizeLine ∧ H' = upd H a (.dT (putK kvs k v))
theorem DGet.k {H : Hp} {a : Addr} {kvs : List (Key × V)} {k : Key} (e : H a = some (.dK kvs)) : DGet H a (kV k) (valV kvs k) := .inl ⟨kvs, k, .inl e, rfl, rfl⟩
theorem DGet.t {H : Hp} {a b : Addr} {kvs : List (List Key × V)} {k : List Key} (e : H a = some (.dT kvs)) (eb : H b = some (.tup (k.map kV))) : DGet H a (.ref b) (valV kvs k) := .inr ⟨kvs, k, b, .inl e, rfl, eb, rfl⟩
theorem DPut.k {H : Hp} {a : Addr} {kvs : List (Key × V)} {k : Key} {v : V} (e : H a = some (.dK kvs)) (hl : kvs.length < sizeLine) : DPut H a (kV k) v (upd H a (.dK (putK kvs k v))) := .inl ⟨kvs, k, e, rfl, hl, rfl⟩
theorem DPut.t {H : Hp} {a b : Addr} {kvs : List (List Key × V)} {k : List Key} {v : V} (e : H a = some (.dT kvs)) (eb : H b = some (.tup (k.map kV))) (hl : kvs.length < sizeLine) :
    DPut H a (.ref b) v (upd H a (.dT (putK kvs k v))) := .inr ⟨kvs, k, b, e, rfl, eb, hl, rfl⟩


section
variable {X : Cx} {pins : List (Addr × Obj)} {σ : St} {H : Hp} {s : Shared} {a : Addr} {y v : V} {u r : Value} {o : Option V} {A : Around} {E : Value → Shared → Prop}
end
section
variable {X : Cx} {pins : List (Addr × Obj)} {σ : St} {H : Hp} {s : Shared} {a : Addr} {kvs : List (Key × V)} {k : Key} {u : Value} {A : Around} {E : Value → Shared → Prop}
end
def NoSl (i : Expr) : Prop := ∀ ov iv, subscripted i false ov iv = operate [ov, iv] (getItem ov iv)
theorem subD_of {prog : Program} {w : World} {A : Around} {E : Value → Shared → Prop} {s : Shared} {env : Env} {value slice : Expr} {pos : Pos} {T id : String} {Q : Value → Shared → Prop}
    (hl : typeLookup (.type T) "__getitem__" = pure (some (.builtin id))) (hs : NoSl slice)
    (h : wpAny (model prog w) A (eval value env) (fun o s₁ => wpAny (model prog w) A (eval slice env) (fun i s₂ => s₂.TypeIs o T ∧ wpAny (model prog w) A (getItem o i) Q E s₂) E s₁) E s) :
    wpAny (model prog w) A (eval (.Subscript value slice pos) env) Q E s := by
  refine Subscript_ (wpAny_mono h (fun o s₁ h₁ => wpAny_mono h₁ (fun i s₂ h₂ => ?_) fun _ _ x => x) fun _ _ x => x)
  obtain ⟨hT, h₂⟩ := h₂
  unfold subscriptTail
  refine wpAny_bind ?_
  rw [getitemInPython_of_ne hT.not_modules]
  refine wpAny_bind (wpAny_specialOf hT hl ?_)
  have fin : wpAny (model prog w) A (subscripted slice false o i) (fun r s₃ => wpAny (model prog w) A (letTemporaryGo value o r >>= fun _ => pure r) Q E s₃) E s₂ := by
    rw [hs o i]
    exact wpAny_operating (wpAny_mono h₂ (fun r s₃ h₃ => wpAny_bind (wpAny_letTemporaryGo (wpAny_pure h₃))) fun _ _ x => x)
  first
    | exact wpAny_pure (wpAny_bind fin)
    | exact wpAny_bind (wpAny_pure (wpAny_bind fin))
    | exact wpAny_bind fin

section
variable {X : Cx} {o i e value : Expr} {pos pos' tpos : Pos} {td ty tv : TE}
end
section
variable {X : Cx} {pos : Pos}
end
section
variable {X : Cx} {pins : List (Addr × Obj)} {σ : St} {H : Hp} {s : Shared} {a : Addr} {y d : V} {u r : Value} {o : Option V} {A : Around} {E : Value → Shared → Prop}
end
section
variable {X : Cx} {o e f : Expr} {apos cpos : Pos} {td ty tx : TE}
end
section
variable {X : Cx} {pins : List (Addr × Obj)} {σ : St} {H : Hp} {s : Shared} {a : Addr} {kvs : List (Key × V)} {A : Around} {E : Value → Shared → Prop}
end
section
variable {X : Cx} {pins : List (Addr × Obj)} {σ : St} {H : Hp} {s : Shared} {a : Addr} {y : V} {u : Value} {A : Around} {E : Value → Shared → Prop}
end
end L2
namespace L2
open PySem PySem.Spec PyProof.Rows
section
variable {prog : Program} {w : World} {A : Around} {E : Value → Shared → Prop}
end
section
variable {X : Cx}
end
end L2
namespace L2
open PySem PySem.Spec PyProof.Rows
theorem boot_reversed5 : bootBuiltins "reversed" = some (.type "reversed") := by decide +kernel

section
variable {X : Cx} {pins : List (Addr × Obj)} {σ : St} {H : Hp} {s : Shared} {h' : Heap}
end
section
variable {X : Cx}
end
def RgC (i j c : Int) (n : Nat) : Prop := c ≠ 0 ∧ c.natAbs < 1073741824 ∧ Builtin.Range.small i j c = true ∧ Builtin.Range.rangeSize i j c = n
theorem RgC.neg {i j : Int} (ha : -(2 ^ 62) ≤ i) (ha' : i < 2 ^ 62) (hb : -(2 ^ 62) ≤ j) (hb' : j < 2 ^ 62) : RgC i j (-1) (i - j).toNat :=
  ⟨by decide, by decide, PySem.W.small_down ha ha' hb hb', PySem.W.rangeSize_downNat i j⟩
section
variable {X : Cx} {tg : Expr}
end
section
variable {X : Cx} {tg : Expr}
end
section
variable {prog : Program} {w : World} {A : Around} {E : Value → Shared → Prop} {s : Shared}
end
section
variable {X : Cx} {pins : List (Addr × Obj)} {σ : St} {H : Hp} {s : Shared} {d : Addr} {o : Obj}
end
section
variable {P : Program} {w : World} {K : PySem.W.Frag} {tg : Expr} {d : Addr} {o : Obj} {es : Array DictEntry} {ep : Nat}
end
section
variable {X : Cx} {tg e : Expr} {td : TE} {apos cpos : Pos}
end
end L2
section 
namespace Bits
open PySem PyProof.Rows
end Bits
end 
section 
namespace TL
open PySem PySem.Builtin PySem.Builtin.Str PySem.StrLaws
abbrev tl (x : Str) : List Nat := x.cps.toList
def pre (S l : List Nat) : Bool := l.take S.length == S
def par (S : List Nat) : List Nat → List Nat → Option (List Nat × List Nat)
  | _, [] => none
  | acc, c :: r => if pre S (c :: r) = true then some (acc, (c :: r).drop S.length) else par S (acc ++ [c]) r

end TL
end 
namespace L2
open PySem PySem.Spec PyProof.Rows
section
variable {X : Cx} {pins : List (Addr × Obj)} {σ : St} {H : Hp} {s : Shared} {Q : VK}
end
section
variable {X : Cx}
end
section
variable {X : Cx} {o e : Expr} {to te : TE}
end
end L2
namespace L2
open PySem PySem.Spec PyProof.Rows
section
variable {X : Cx}
end
end L2
namespace Att
open PySem PySem.W PySem.Calls PyProof.Rows
section
variable {prog : Program} {w : World} {A : Around} {E : Value → Shared → Prop} {s : Shared} {K : Frag}
end
end Att
namespace L2
open PySem PySem.Spec PyProof.Rows
end L2
namespace L2
open PySem PySem.Spec PyProof.Rows
end L2
namespace L2
open PySem PySem.Spec PyProof.Rows
def inClass (s : Stmt) (j : Nat) : Stmt := match s with
  | .ClassDef _ _ _ body _ _ _ _ _ _ _ => body.getD j (.Pass ⟨0, 0, 0, 0⟩)
  | _ => .Pass ⟨0, 0, 0, 0⟩
def defArgs (s : Stmt) : Arguments := match s with
  | .FunctionDef _ a _ _ _ _ _ _ _ _ => a
  | _ => { posonlyargs := [], args := [], vararg := none, kwonlyargs := [], kw_defaults := [], kwarg := none, defaults := [] }
def defBody (s : Stmt) : List Stmt := match s with
  | .FunctionDef _ _ b _ _ _ _ _ _ _ => b
  | _ => []
def defScope (s : Stmt) : Scope := match s with
  | .FunctionDef _ _ _ _ _ _ sc _ _ _ => sc
  | _ => { kind := .function, names := [], isGenerator := false, isCoroutine := false }

abbrev CX0 : CXT := fun _ _ _ _ _ _ => False
abbrev E0 : XK := fun _ _ _ => False
theorem pass0 {X : Cx} : Passes CX0 X E0 := fun _ _ _ _ _ _ _ h => h.elim

structure Fun (K : PySem.W.Frag) (x qual : Str) (st : Stmt) (f : Addr) (fd : FuncData) : Prop where
  ex : ∃ (oc : Value) (od : Option Addr) (kV doc pm : Value) (an : Option Addr) (cdv ct : Value) (osl : Array (Option Value)),
    fd = PySem.W.fnOf x qual (defArgs st) (defBody st) (defScope st) .none kV doc pm an cdv ct ∧ K.lookup f = some ⟨oc, od, .func fd, osl⟩ ∧ PySem.W.codeIn K cdv qual = true
  kp : PySem.W.keepIn K (.ref f) = true
section
variable {P : Program} {w : World} {K : PySem.W.Frag} {mg : Str → Option Value} {base : Heap}
theorem Fun.ok {x qual : Str} {st : Stmt} {f : Addr} {fd : FuncData} {N ps : List Str} {k : Nat} {sp : Sp} (F : Fun K x qual st f fd) (S : FnScope N ps (defScope st)) (len : ∀ vs H Q E, sp vs H Q E → vs.length = ps.length)
    (hbody : ∀ (cdv : Value) (A : Around) (outer : List Env) (s : Shared) (H : Hp) (vs : List V) (Q : VK) (E : XK), Room k (A.deeper (envOfC qual (defScope st) s.heap.objs.size f cdv)) → sp vs H Q E →
      ∃ t, PSs (cxOf CX0 P w K mg base N qual (defScope st) f cdv A outer s H E).nox (defBody st) t ∧ t { nx := fun _ H' => Q .non H', rt := Q } (start N vs) H) : FnOk P w K mg base CX0 (k + 1) f fd ps sp := by
  obtain ⟨oc, od, kV, doc, pm, an, cdv, ct, osl, rfl, lk, hcd⟩ := F.ex
  refine fn_of lk hcd S len fun A outer s H vs Q E hr hsp => ?_
  obtain ⟨t, h, q⟩ := hbody cdv A outer s H vs Q E hr hsp
  exact ⟨t, h.nox, q⟩
theorem Fun.binds {x qual : Str} {st : Stmt} {f : Addr} {fd : FuncData} {ps : List Str} (F : Fun K x qual st f fd)
    (h : ∀ (kV doc pm : Value) (an : Option Addr) (cdv ct : Value) (us : List Value), us.length = ps.length → bindArgs (PySem.W.fnOf x qual (defArgs st) (defBody st) (defScope st) .none kV doc pm an cdv ct) ⟨us, []⟩ = pure (ps.zip us)) : Binds K fd ps [] := by
  obtain ⟨oc, od, kV, doc, pm, an, cdv, ct, osl, rfl, lk, hcd⟩ := F.ex
  exact .all (h kV doc pm an cdv ct)
theorem fun_mk {x qual : Str} {st : Stmt} {f : Addr} {oc : Value} {od an : Option Addr} {osl : Array (Option Value)} {kV doc pm cdv ct : Value} (l : K.lookup f = some ⟨oc, od, .func (PySem.W.fnOf x qual (defArgs st) (defBody st) (defScope st) .none kV doc pm an cdv ct), osl⟩)
    (c : PySem.W.codeIn K cdv qual = true) (k : PySem.W.keepIn K (.ref f) = true) : Fun K x qual st f (PySem.W.fnOf x qual (defArgs st) (defBody st) (defScope st) .none kV doc pm an cdv ct) := ⟨⟨oc, od, kV, doc, pm, an, cdv, ct, osl, rfl, l, c⟩, k⟩
end
theorem hu_of {A : Around} {k : Nat} (hr : Room k A) : A.units + 1 < cLine := Nat.lt_of_le_of_lt (Nat.add_le_add_left (by decide : 1 ≤ 64) _) hr.units
section
variable {X : Cx}
theorem pv (i : Nat) {x : Str} {pos : Pos} (hN : X.N[i]? = some x := by rfl) (hv : Vis X.env.scope x := by first | exact Or.inl rfl | exact Or.inr (Or.inl rfl) | exact Or.inr (Or.inr rfl)) (hd : (x == ("__debug__" : Str)) = false := by decide)
    (hcd : (x == ("__classdict__" : Str)) = false := by decide) : PE X (.Name x pos) (tVar i) := pe_var hN hv hd hcd
end
theorem iteF {A B : Prop} (h : B) : if false = true then A else B := by
  rw [if_neg Bool.false_ne_true]
  exact h
def Same (H H' : Hp) : Prop := ∀ b o, H b = some o → H' b = some o
theorem Same.refl (H : Hp) : Same H H := fun _ _ h => h
theorem Same.trans {H H1 H2 : Hp} (a : Same H H1) (b : Same H1 H2) : Same H H2 := fun c o h => b c o (a c o h)
theorem Same.free {H H' : Hp} (e : Same H H') {l : Addr} (h : H' l = Option.none) : H l = Option.none := by
  cases q : H l with
  | none => rfl
  | some o =>
    rw [e l o q] at h
    cases h
theorem Same.seq {K : PySem.W.Frag} {H H' : Hp} {a : Addr} {xs : List V} (e : Same H H') (h : SqL K H a xs) : SqL K H' a xs := by
  rcases h with (h | ⟨o, h⟩) | h
  · exact .inl (.inl (e _ _ h))
  · exact .inl (.inr ⟨o, e _ _ h⟩)
  · exact .inr h

section
variable {κ : Type} [DecidableEq κ]
end
theorem Same.made {H H1 : Hp} {x dx C : Addr} (nx : H x = Option.none) (nd : H dx = Option.none) (k : ∀ b o, (upd (upd H dx (.own x)) x (.ins C dx [])) b = some o → b ≠ x → H1 b = some o) : Same H H1 := fun b o e =>
  k b o (by rw [upd_ne (ne_of_none e nx), upd_ne (ne_of_none e nd)]; exact e) (ne_of_none e nx)
end L2
section
set_option Elab.async false
set_option linter.all false
set_option maxRecDepth 100000
set_option maxHeartbeats 2000000
namespace L2
open PySem PySem.Spec PyProof.Rows
open PySem.W (WData Codec OpenSpec Well WellAll ReadsW ReadsAllW)
mutual
/-- x stands for the datum d, lists and tuples all the way -/
inductive Dw (K : PySem.W.Frag) (H : Hp) : V → WData → Prop
  | non : Dw K H .non .none
  | bl (b : Bool) : Dw K H (.bl b) (.bool b)
  | int (i : Int) : Dw K H (.int i) (.int i)
  | str (x : Str) : Dw K H (.str x) (.str x)
  | byt (b : Array UInt8) : Dw K H (.byt b) (.bytes b.toList)
  | lst {a : Addr} {xs : List V} {ds : List WData} : SqL K H a xs → DwAll K H xs ds → Dw K H (.ref a) (.list ds)
  | tup {a : Addr} {xs : List V} {ds : List WData} : SqT K H a xs → DwAll K H xs ds → Dw K H (.ref a) (.tuple ds)
inductive DwAll (K : PySem.W.Frag) (H : Hp) : List V → List WData → Prop
  | nil : DwAll K H [] []
  | cons {v : V} {vs : List V} {d : WData} {ds : List WData} : Dw K H v d → DwAll K H vs ds → DwAll K H (v :: vs) (d :: ds)
end
theorem dw_ints {K : PySem.W.Frag} {H : Hp} : ∀ ns : List Int, DwAll K H (ns.map V.int) (ns.map WData.int)
  | [] => .nil
  | n :: r => .cons (.int n) (dw_ints r)
section
variable {P : Program} {w : World} {K : PySem.W.Frag} {H : Hp} {h : Heap} {R : PySem.W.WRecords} {cl : Str → Option Addr}
theorem sqL_at {a : Addr} {xs : List V} (hok : HOk P w H h) (KX : K.In h) (q : SqL K H a xs) : ∃ (its : List Value) (o : Obj) (n : Nat), Vals xs its ∧ h.get? a = some o ∧ o.cls = .type "list" ∧ o.data = .seq its.toArray n := by
  rcases q with q | ⟨o, its, n, e, hc, _, hd, _, hv⟩
  · obtain ⟨_, its, n, hv, e⟩ := (show ObjOk P w H h a (.lst xs) from q.ok hok)
    exact ⟨its, _, n, hv, e, rfl, rfl⟩
  · exact ⟨its.toList, o, n, hv, KX _ _ e, hc, by simp [hd]⟩
theorem sqT_at {a : Addr} {xs : List V} (hok : HOk P w H h) (KX : K.In h) (q : SqT K H a xs) : ∃ (its : List Value) (o : Obj) (n : Nat), Vals xs its ∧ h.get? a = some o ∧ o.cls = .type "tuple" ∧ o.data = .seq its.toArray n := by
  rcases q with q | ⟨o, its, n, e, hc, hd, _, hv⟩
  · obtain ⟨_, its, hv, o, e, hc, n, hd⟩ := (show ObjOk P w H h a (.tup xs) from q.ok hok)
    exact ⟨its, o, n, hv, e, hc, hd⟩
  · exact ⟨its.toList, o, n, hv, KX _ _ e, hc, by simp [hd]⟩
mutual
theorem Dw.reads (hok : HOk P w H h) (KX : K.In h) : ∀ (d : WData) (v : V) (u : Value), Dw K H v d → RelV v u → ∃ as, ReadsW R cl h u d as
  | .none, _, _, x, r => by
    cases x
    cases r
    exact ⟨_, ReadsW.none⟩
  | .bool b, _, _, x, r => by
    cases x
    cases r
    exact ⟨_, ReadsW.bool b⟩
  | .int i, _, _, x, r => by
    cases x
    obtain ⟨t, rfl⟩ := r
    exact ⟨_, ReadsW.int i t⟩
  | .str s, _, _, x, r => by
    cases x
    obtain ⟨t, rfl⟩ := r
    exact ⟨_, ReadsW.str s t⟩
  | .bytes b, _, _, x, r => by
    cases x
    obtain ⟨t, rfl⟩ := r
    exact ⟨_, ReadsW.bytes _ t⟩
  | .list ds, _, _, x, r => by
    cases x with
    | lst hs ha =>
      cases r
      obtain ⟨its, o, n, rv, ho, hc, hd⟩ := sqL_at hok KX hs
      obtain ⟨as, hr⟩ := Dw.readsAll hok KX ds _ its ha rv
      exact ⟨_, ReadsW.list ho hc hd hr⟩
  | .tuple ds, _, _, x, r => by
    cases x with
    | tup hs ha =>
      cases r
      obtain ⟨its, o, n, rv, ho, hc, hd⟩ := sqT_at hok KX hs
      obtain ⟨as, hr⟩ := Dw.readsAll hok KX ds _ its ha rv
      exact ⟨_, ReadsW.tuple ho hc hd hr⟩
  | .float _, _, _, x, _ => by cases x
  | .dict _, _, _, x, _ => by cases x
  | .bytearray _, _, _, x, _ => by cases x
  | .set _, _, _, x, _ => by cases x
  | .frozenset _, _, _, x, _ => by cases x
  | .obj _ _, _, _, x, _ => by cases x
theorem Dw.readsAll (hok : HOk P w H h) (KX : K.In h) : ∀ (ds : List WData) (vs : List V) (us : List Value), DwAll K H vs ds → Vals vs us → ∃ as, ReadsAllW R cl h us ds as
  | [], _, _, x, r => by
    cases x
    cases r
    exact ⟨_, ReadsAllW.nil⟩
  | d :: ds, _, _, x, r => by
    cases x with
    | cons h1 h2 =>
      cases r with
      | cons r1 r2 =>
        obtain ⟨as, q1⟩ := Dw.reads hok KX d _ _ h1 r1
        obtain ⟨bs, q2⟩ := Dw.readsAll hok KX ds _ _ h2 r2
        exact ⟨_, ReadsAllW.cons q1 q2⟩
end
end
mutual
/-- data that a codec tells -/
def plW : WData → Bool
  | .none => true
  | .bool _ => true
  | .int _ => true
  | .str _ => true
  | .bytes _ => true
  | .list xs => plWs xs
  | .tuple xs => plWs xs
  | _ => false
def plWs : List WData → Bool
  | [] => true
  | x :: r => plW x && plWs r
end
theorem plWs_map {α : Type} {f : α → WData} (h : ∀ a, plW (f a) = true) : ∀ l : List α, plWs (l.map f) = true
  | [] => rfl
  | x :: r => by
    show (plW (f x) && plWs (r.map f)) = true
    rw [h x, plWs_map h r] <;> rfl
theorem pl_enc : ∀ (c : Codec) (a : c.denote), plW (c.enc a) = true
  | .unit, _ => rfl
  | .bool, _ => rfl
  | .int _ _, _ => rfl
  | .nat _ _, _ => rfl
  | .u8, _ => rfl
  | .bytes _ _, _ => rfl
  | .text _ _ _ _, _ => rfl
  | .list _ _ c, a => plWs_map (fun x => pl_enc c x) a
  | .pair c d, a => by
    show (plW (c.enc a.1) && (plW (d.enc a.2) && true)) = true
    rw [pl_enc c a.1, pl_enc d a.2] <;> rfl
  | .triple c d e, a => by
    show (plW (c.enc a.1) && (plW (d.enc a.2.1) && (plW (e.enc a.2.2) && true))) = true
    rw [pl_enc c a.1, pl_enc d a.2.1, pl_enc e a.2.2] <;> rfl
  | .option c, none => rfl
  | .option c, some x => pl_enc c x
theorem pl_encAll : ∀ (cs : List Codec) (a : Codec.denoteAll cs), plWs (Codec.encAll cs a) = true
  | [], _ => rfl
  | c :: cs, a => by
    show (plW (c.enc a.1) && plWs (Codec.encAll cs a.2)) = true
    rw [pl_enc c a.1, pl_encAll cs a.2] <;> rfl
theorem weight_mem : ∀ {xs : List WData} {d : WData}, d ∈ xs → d.weight ≤ WData.weightAll xs
  | [], d, h => absurd h (by simp)
  | x :: r, d, h => by
    show d.weight ≤ x.weight + 1 + WData.weightAll r
    rcases List.mem_cons.mp h with e | m
    · rw [e]
      omega
    · have z := weight_mem m
      omega
def toV : Value → V
  | .none => .non
  | .bool b => .bl b
  | .int i _ => .int i
  | .str x _ => .str x
  | .bytes b _ => .byt b
  | .ref a => .ref a
  | _ => .non
def OkU (A : List Addr) : Value → Prop
  | .none => True
  | .bool _ => True
  | .int _ _ => True
  | .str _ _ => True
  | .bytes _ _ => True
  | .ref a => a ∈ A
  | _ => False
theorem OkU.mono {A B : List Addr} (h : ∀ a ∈ A, a ∈ B) : ∀ {u : Value}, OkU A u → OkU B u := fun {u} x => by
  cases u with
  | ref a => exact h a x
  | none => trivial
  | bool b => trivial
  | int i t => trivial
  | str s t => trivial
  | bytes b t => trivial
  | _ => exact False.elim x
theorem relV_toV {A : List Addr} {u : Value} (x : OkU A u) : RelV (toV u) u := by
  cases u with
  | ref a => rfl
  | none => rfl
  | bool b => rfl
  | int i t => exact ⟨t, rfl⟩
  | str s t => exact ⟨t, rfl⟩
  | bytes b t => exact ⟨t, rfl⟩
  | _ => exact False.elim x
theorem vals_toV {A : List Addr} : ∀ {vs : List Value}, (∀ u ∈ vs, OkU A u) → Vals (vs.map toV) vs
  | [], _ => .nil
  | u :: r, h => .cons (relV_toV (h u (List.mem_cons_self ..))) (vals_toV fun x hx => h x (List.mem_cons_of_mem _ hx))
def ArgOb (h : Heap) (A : List Addr) (a : Addr) : Prop := ∃ vs : List Value, vs.length ≤ sizeLine ∧ (∀ u ∈ vs, OkU A u) ∧
  (h.get? a = some { cls := .type "list", data := .seq vs.toArray } ∨ h.get? a = some { cls := .type "tuple", data := .seq vs.toArray })
theorem ArgOb.mono {h : Heap} {A B : List Addr} {a : Addr} (k : ∀ a ∈ A, a ∈ B) (x : ArgOb h A a) : ArgOb h B a := by
  obtain ⟨vs, h1, h2, h3⟩ := x
  exact ⟨vs, h1, fun u hu => (h2 u hu).mono k, h3⟩
theorem wellAll_len {P : Params} {h : Heap} : ∀ {vs : List Value} {ds : List WData}, WellAll P h vs ds → vs.length = ds.length
  | _, _, .nil => rfl
  | _, _, .cons _ b => by
    show _ + 1 = _ + 1
    rw [wellAll_len b]
theorem well_list {P : Params} {h : Heap} {v : Value} {ds : List WData} (x : Well P h v (.list ds)) : ∃ (a : Addr) (vs : List Value), v = .ref a ∧ h.get? a = some { cls := .type "list", data := .seq vs.toArray } ∧ WellAll P h vs ds := by
  cases x with
  | list ho hall => exact ⟨_, _, rfl, ho, hall⟩
theorem well_tuple {P : Params} {h : Heap} {v : Value} {ds : List WData} (x : Well P h v (.tuple ds)) : ∃ (a : Addr) (vs : List Value), v = .ref a ∧ h.get? a = some { cls := .type "tuple", data := .seq vs.toArray } ∧ WellAll P h vs ds := by
  cases x with
  | tuple ho hall => exact ⟨_, _, rfl, ho, hall⟩
theorem well_cons {P : Params} {h : Heap} {us : List Value} {d : WData} {ds : List WData} (x : WellAll P h us (d :: ds)) : ∃ (v : Value) (vs : List Value), us = v :: vs ∧ Well P h v d ∧ WellAll P h vs ds := by
  cases x with
  | cons a b => exact ⟨_, _, rfl, a, b⟩
theorem line_of {n : Nat} (h : n ≤ 1048576) : n ≤ sizeLine := Nat.le_trans h (by decide)
section
variable {P : Params} {h : Heap}
mutual
theorem area_one : ∀ (d : WData) (v : Value), Well P h v d → plW d = true → d.weight ≤ 1048576 → ∃ A : List Addr, OkU A v ∧ ∀ a ∈ A, ArgOb h A a
  | .none, _, x, _, _ => by
    cases x
    exact ⟨[], trivial, fun a m => absurd m (by simp)⟩
  | .bool b, _, x, _, _ => by
    cases x
    exact ⟨[], trivial, fun a m => absurd m (by simp)⟩
  | .int i, _, x, _, _ => by
    cases x
    exact ⟨[], trivial, fun a m => absurd m (by simp)⟩
  | .str s, _, x, _, _ => by
    cases x
    exact ⟨[], trivial, fun a m => absurd m (by simp)⟩
  | .bytes b, _, x, _, _ => by
    cases x
    exact ⟨[], trivial, fun a m => absurd m (by simp)⟩
  | .list ds, _, x, p, z => by
    obtain ⟨a, vs, rfl, ho, hall⟩ := well_list x
    have z2 : WData.weightAll ds ≤ 1048576 := z
    obtain ⟨A, h1, h2⟩ := area_all ds _ hall p fun d hd => Nat.le_trans (weight_mem hd) z2
    have k : ∀ b ∈ A, b ∈ a :: A := fun b hb => List.mem_cons_of_mem _ hb
    refine ⟨a :: A, List.mem_cons_self .., fun b hb => ?_⟩
    rcases List.mem_cons.mp hb with e | m
    · rw [e]
      exact ⟨vs, line_of (by rw [wellAll_len hall]; exact Nat.le_trans (PySem.W.length_le_weightAllW ds) z2), fun u hu => (h1 u hu).mono k, .inl ho⟩
    · exact (h2 b m).mono k
  | .tuple ds, _, x, p, z => by
    obtain ⟨a, vs, rfl, ho, hall⟩ := well_tuple x
    have z2 : WData.weightAll ds ≤ 1048576 := z
    obtain ⟨A, h1, h2⟩ := area_all ds _ hall p fun d hd => Nat.le_trans (weight_mem hd) z2
    have k : ∀ b ∈ A, b ∈ a :: A := fun b hb => List.mem_cons_of_mem _ hb
    refine ⟨a :: A, List.mem_cons_self .., fun b hb => ?_⟩
    rcases List.mem_cons.mp hb with e | m
    · rw [e]
      exact ⟨vs, line_of (by rw [wellAll_len hall]; exact Nat.le_trans (PySem.W.length_le_weightAllW ds) z2), fun u hu => (h1 u hu).mono k, .inr ho⟩
    · exact (h2 b m).mono k
  | .float _, _, _, p, _ => Bool.noConfusion (show false = true from p)
  | .dict _, _, _, p, _ => Bool.noConfusion (show false = true from p)
  | .bytearray _, _, _, p, _ => Bool.noConfusion (show false = true from p)
  | .set _, _, _, p, _ => Bool.noConfusion (show false = true from p)
  | .frozenset _, _, _, p, _ => Bool.noConfusion (show false = true from p)
  | .obj _ _, _, _, p, _ => Bool.noConfusion (show false = true from p)
theorem area_all : ∀ (ds : List WData) (vs : List Value), WellAll P h vs ds → plWs ds = true → (∀ d ∈ ds, d.weight ≤ 1048576) → ∃ A : List Addr, (∀ u ∈ vs, OkU A u) ∧ ∀ a ∈ A, ArgOb h A a
  | [], _, x, _, _ => by
    cases x
    exact ⟨[], fun u m => absurd m (by simp), fun a m => absurd m (by simp)⟩
  | d :: ds, _, x, p, z => by
    obtain ⟨v, vs, rfl, x1, x2⟩ := well_cons x
    have q : plW d = true ∧ plWs ds = true := Bool.and_eq_true_iff.mp p
    obtain ⟨A, a1, a2⟩ := area_one d v x1 q.1 (z d (List.mem_cons_self ..))
    obtain ⟨B, b1, b2⟩ := area_all ds vs x2 q.2 fun e he => z e (List.mem_cons_of_mem _ he)
    have kA : ∀ b ∈ A, b ∈ A ++ B := fun b hb => List.mem_append.mpr (.inl hb)
    have kB : ∀ b ∈ B, b ∈ A ++ B := fun b hb => List.mem_append.mpr (.inr hb)
    refine ⟨A ++ B, fun u hu => ?_, fun b hb => ?_⟩
    · rcases List.mem_cons.mp hu with e | m
      · rw [e]
        exact a1.mono kA
      · exact (b1 u m).mono kB
    · rcases List.mem_append.mp hb with m | m
      · exact (a2 b m).mono kA
      · exact (b2 b m).mono kB
end
end
def hoOf (o : Obj) : Option HO := match o.data with
  | .seq vs _ => if (o.cls == Value.type "list") = true then some (.frz o (.lst (vs.toList.map toV))) else some (.frz o (.tup (vs.toList.map toV)))
  | _ => none
def argH (K : PySem.W.Frag) (h : Heap) (A : List Addr) : Hp := fun b => if b ∈ A then (if (K.lookup b).isNone = true then (h.get? b).bind hoOf else none) else none
def OnlyF (H : Hp) : Prop := ∀ b, H b = none ∨ ∃ o u, H b = some (.frz o u)
theorem hoOf_lst (vs : List Value) : hoOf { cls := .type "list", data := .seq vs.toArray } = some (.frz { cls := .type "list", data := .seq vs.toArray } (.lst (vs.map toV))) := by
  show (if (Value.type "list" == Value.type "list") = true then some (HO.frz { cls := .type "list", data := .seq vs.toArray } (.lst (vs.toArray.toList.map toV))) else some (HO.frz { cls := .type "list", data := .seq vs.toArray } (.tup (vs.toArray.toList.map toV)))) = _
  rw [if_pos (beq_self_eq_true _)]
theorem hoOf_tup (vs : List Value) : hoOf { cls := .type "tuple", data := .seq vs.toArray } = some (.frz { cls := .type "tuple", data := .seq vs.toArray } (.tup (vs.map toV))) := by
  show (if (Value.type "tuple" == Value.type "list") = true then some (HO.frz { cls := .type "tuple", data := .seq vs.toArray } (.lst (vs.toArray.toList.map toV))) else some (HO.frz { cls := .type "tuple", data := .seq vs.toArray } (.tup (vs.toArray.toList.map toV)))) = _
  rw [if_neg (by decide)]
section
variable {P : Program} {w : World} {K : PySem.W.Frag} {h : Heap} {A : List Addr}
theorem argH_at {b : Addr} {o : Obj} (hb : b ∈ A) (hk : K.lookup b = none) (e : h.get? b = some o) : argH K h A b = hoOf o := by
  unfold argH
  rw [if_pos hb, hk, if_pos (show (none : Option Obj).isNone = true from rfl), e] <;> rfl
theorem of_argH {b : Addr} {u : HO} (q : argH K h A b = some u) : b ∈ A ∧ K.lookup b = none := by
  unfold argH at q
  by_cases hb : b ∈ A
  · rw [if_pos hb] at q
    cases hk : K.lookup b with
    | none => exact ⟨hb, rfl⟩
    | some o =>
      rw [hk, if_neg (by simp)] at q
      cases q
  · rw [if_neg hb] at q
    cases q
theorem argH_is (ar : ∀ a ∈ A, ArgOb h A a) {b : Addr} {u : HO} (q : argH K h A b = some u) : K.lookup b = none ∧ ∃ vs : List Value, vs.length ≤ sizeLine ∧ (∀ u ∈ vs, OkU A u) ∧
    ((h.get? b = some { cls := .type "list", data := .seq vs.toArray } ∧ u = .frz { cls := .type "list", data := .seq vs.toArray } (.lst (vs.map toV))) ∨
     (h.get? b = some { cls := .type "tuple", data := .seq vs.toArray } ∧ u = .frz { cls := .type "tuple", data := .seq vs.toArray } (.tup (vs.map toV)))) := by
  obtain ⟨hb, hk⟩ := of_argH q
  obtain ⟨vs, h1, h2, h3⟩ := ar b hb
  refine ⟨hk, vs, h1, h2, ?_⟩
  rcases h3 with e | e
  · rw [argH_at hb hk e, hoOf_lst] at q
    exact .inl ⟨e, (Option.some.inj q).symm⟩
  · rw [argH_at hb hk e, hoOf_tup] at q
    exact .inr ⟨e, (Option.some.inj q).symm⟩
theorem argH_only (ar : ∀ a ∈ A, ArgOb h A a) : OnlyF (argH K h A) := fun b => by
  cases q : argH K h A b with
  | none => exact .inl rfl
  | some u =>
    obtain ⟨_, vs, _, _, ⟨_, e⟩ | ⟨_, e⟩⟩ := argH_is ar q
    · exact .inr ⟨_, _, by rw [e]⟩
    · exact .inr ⟨_, _, by rw [e]⟩
theorem argH_ok (ar : ∀ a ∈ A, ArgOb h A a) : HOk P w (argH K h A) h := fun b u q => by
  obtain ⟨_, vs, h1, h2, ⟨e, rfl⟩ | ⟨e, rfl⟩⟩ := argH_is ar q
  · exact ⟨e, by rw [List.length_map]; exact h1, vs, _, vals_toV h2, e⟩
  · exact ⟨e, by rw [List.length_map]; exact h1, vs, vals_toV h2, _, e, rfl, _, rfl⟩
theorem seq_inj {c c' : Value} {vs us : List Value} (e : (some { cls := c, data := .seq vs.toArray } : Option Obj) = some { cls := c', data := .seq us.toArray }) : c = c' ∧ vs = us := by
  have e1 := Option.some.inj e
  have e2 : c = c' := congrArg Obj.cls e1
  have e3 : Data.seq vs.toArray = Data.seq us.toArray := congrArg Obj.data e1
  injection e3 with e4
  refine ⟨e2, ?_⟩
  have e5 := congrArg Array.toList e4
  simpa using e5
theorem argL (KX : K.In h) (ar : ∀ a ∈ A, ArgOb h A a) {a : Addr} {vs : List Value} (ha : a ∈ A) (e : h.get? a = some { cls := .type "list", data := .seq vs.toArray }) : (∀ u ∈ vs, OkU A u) ∧ SqL K (argH K h A) a (vs.map toV) := by
  obtain ⟨us, h1, h2, h3⟩ := ar a ha
  have hu : us = vs := by
    rcases h3 with q | q
    · rw [e] at q
      exact (seq_inj q).2.symm
    · rw [e] at q
      exact absurd (Value.type.inj (seq_inj q).1) (by decide)
  subst hu
  refine ⟨h2, ?_⟩
  cases hk : K.lookup a with
  | none => exact .inl (.inr ⟨_, by rw [argH_at ha hk e, hoOf_lst]⟩)
  | some o =>
    have e2 := KX a o hk
    rw [e] at e2
    obtain rfl := Option.some.inj e2
    exact .inr ⟨_, us.toArray, _, hk, rfl, rfl, rfl, by rw [List.size_toArray]; exact h1, by simpa using vals_toV h2⟩
theorem argT (KX : K.In h) (ar : ∀ a ∈ A, ArgOb h A a) {a : Addr} {vs : List Value} (ha : a ∈ A) (e : h.get? a = some { cls := .type "tuple", data := .seq vs.toArray }) : (∀ u ∈ vs, OkU A u) ∧ SqT K (argH K h A) a (vs.map toV) := by
  obtain ⟨us, h1, h2, h3⟩ := ar a ha
  have hu : us = vs := by
    rcases h3 with q | q
    · rw [e] at q
      exact absurd (Value.type.inj (seq_inj q).1) (by decide)
    · rw [e] at q
      exact (seq_inj q).2.symm
  subst hu
  refine ⟨h2, ?_⟩
  cases hk : K.lookup a with
  | none => exact .inl (.inr ⟨_, by rw [argH_at ha hk e, hoOf_tup]⟩)
  | some o =>
    have e2 := KX a o hk
    rw [e] at e2
    obtain rfl := Option.some.inj e2
    exact .inr ⟨_, us.toArray, _, hk, rfl, rfl, by rw [List.size_toArray]; exact h1, by simpa using vals_toV h2⟩
mutual
theorem dw_one {Pm : Params} (KX : K.In h) (ar : ∀ a ∈ A, ArgOb h A a) : ∀ (d : WData) (v : Value), Well Pm h v d → plW d = true → OkU A v → Dw K (argH K h A) (toV v) d
  | .none, _, x, _, _ => by
    cases x
    exact .non
  | .bool b, _, x, _, _ => by
    cases x
    exact .bl b
  | .int i, _, x, _, _ => by
    cases x
    exact .int i
  | .str s, _, x, _, _ => by
    cases x
    exact .str s
  | .bytes b, _, x, _, _ => by
    cases x
    have z := Dw.byt (K := K) (H := argH K h A) b.toArray
    exact z
  | .list ds, _, x, p, hu => by
    obtain ⟨a, vs, rfl, ho, hall⟩ := well_list x
    obtain ⟨h2, hs⟩ := argL KX ar hu ho
    exact .lst hs (dw_all KX ar ds _ hall p h2)
  | .tuple ds, _, x, p, hu => by
    obtain ⟨a, vs, rfl, ho, hall⟩ := well_tuple x
    obtain ⟨h2, hs⟩ := argT KX ar hu ho
    exact .tup hs (dw_all KX ar ds _ hall p h2)
  | .float _, _, _, p, _ => Bool.noConfusion (show false = true from p)
  | .dict _, _, _, p, _ => Bool.noConfusion (show false = true from p)
  | .bytearray _, _, _, p, _ => Bool.noConfusion (show false = true from p)
  | .set _, _, _, p, _ => Bool.noConfusion (show false = true from p)
  | .frozenset _, _, _, p, _ => Bool.noConfusion (show false = true from p)
  | .obj _ _, _, _, p, _ => Bool.noConfusion (show false = true from p)
theorem dw_all {Pm : Params} (KX : K.In h) (ar : ∀ a ∈ A, ArgOb h A a) : ∀ (ds : List WData) (vs : List Value), WellAll Pm h vs ds → plWs ds = true → (∀ u ∈ vs, OkU A u) → DwAll K (argH K h A) (vs.map toV) ds
  | [], _, x, _, _ => by
    cases x
    exact .nil
  | d :: ds, _, x, p, hu => by
    obtain ⟨v, vs, rfl, x1, x2⟩ := well_cons x
    have q : plW d = true ∧ plWs ds = true := Bool.and_eq_true_iff.mp p
    exact .cons (dw_one KX ar d v x1 q.1 (hu _ (List.mem_cons_self ..))) (dw_all KX ar ds vs x2 q.2 fun u m => hu u (List.mem_cons_of_mem _ m))
end
end
theorem spec_call {P : Program} {w : World} {K : PySem.W.Frag} {mg mb : Str → Option Value} {CX : CXT} {k : Nat} {fa : Addr} {fd : FuncData} {ps : List Str} {sp : Sp} {s₁ : Shared} {vals : List Value} {ds : List WData} {R : PySem.W.WRecords} {cl : Str → Option Addr} {d0 : WData}
    (KX : K.In s₁.heap) (hns : s₁.heap.Ns mainGlobals mg) (hb : s₁.heap.Ns builtinsNs mb) (hbb : ∀ x : Str, x ≠ "__name__" → mb x = bootBuiltins x) (hlim : s₁.heap.NoLimit) (hg : s₁.gens = #[])
    (hwl : WellAll w.params s₁.heap vals ds) (hpl : plWs ds = true) (hwt : ∀ d ∈ ds, d.weight ≤ 1048576) (hr : Room k callerA)
    (F : ∀ base : Heap, K.In base → base.Ns mainGlobals mg → FnOk P w K mg base CX k fa fd ps sp) (hbind : ∀ (s : Shared) (us : List Value), us.length = ps.length → BindsTo s fd ⟨us, []⟩ (ps.zip us)) (hlen : ds.length = ps.length)
    (hsp : ∀ (H : Hp) (xs : List V), OnlyF H → DwAll K H xs ds → sp xs H (fun v H' => Dw K H' v d0) fun _ _ _ => False)
    (hCX : ∀ H e s', CX [] H s₁ (fun _ _ _ => False) e s' → False) :
    codeAny (model P w) callerA (.call (.ref fa) ⟨vals, []⟩) (fun r s' => ∃ u as, r = .ok (.ret u) ∧ ReadsW R cl s'.heap u d0 as ∧ OldK s₁.heap s'.heap ∧ s'.os = s₁.os ∧ AllBare s'.gens) s₁ := by
  obtain ⟨A, ho, ar⟩ := area_all ds vals hwl hpl hwt
  have hO : OnlyF (argH K s₁.heap A) := argH_only ar
  have hok : HOk P w (argH K s₁.heap A) s₁.heap := argH_ok ar
  have hS := dw_all KX ar ds vals hwl hpl ho
  have hV := vals_toV ho
  have hK : ∀ b u, argH K s₁.heap A b = some u → K.lookup b = none := fun b u q => (argH_is ar q).1
  have noA : ∀ {b : Addr} {o : Obj} {es : Array DictEntry} {ep : Nat}, s₁.heap.get? b = some o → o.data = .dict es ep → argH K s₁.heap A b = none := fun {b o es ep} e d => by
    cases q : argH K s₁.heap A b with
    | none => rfl
    | some u =>
      obtain ⟨_, vs, _, _, ⟨e2, _⟩ | ⟨e2, _⟩⟩ := argH_is ar q
      · rw [e2] at e
        cases e
        have d' : Data.seq vs.toArray _ = Data.dict es ep := d
        cases d'
      · rw [e2] at e
        cases e
        have d' : Data.seq vs.toArray _ = Data.dict es ep := d
        cases d'
  generalize argH K s₁.heap A = H at hO hok hS hK noA
  have base_of : ∀ {b : Addr} {o : Obj}, s₁.heap.get? b = some o → H b = none → (hidT s₁.heap H).get? b = some o := fun e n => hidT_get e n
  have nsK : ∀ {b : Addr} {m : Str → Option Value}, s₁.heap.Ns b m → (hidT s₁.heap H).Ns b m := fun {b m} ⟨o, es, ep, e, d, r⟩ => ⟨o, es, ep, base_of e (noA e d), d, r⟩
  have nK : ∀ b o, K.lookup b = some o → H b = none := fun b o e => by
    cases q : H b with
    | none => rfl
    | some u =>
      rw [hK b u q] at e
      cases e
  have hKb : K.In (hidT s₁.heap H) := fun b o e => base_of (KX b o e) (nK b o e)
  have hM : Mod K mg (hidT s₁.heap H) := ⟨hKb, nsK hns, ⟨mb, nsK hb, hbb⟩, let ⟨mc, h1, h2⟩ := hlim; ⟨mc, nsK h1, h2⟩⟩
  have e0 : Env0 P w K mg (hidT s₁.heap H) callerA [] s₁ H := ⟨rfl, hM, fun b o e => of_hidT e, Nat.le_of_eq (hidT_size _ _), trivial, fun b hb => absurd (show b ∈ ([] : List Addr) from hb) (by simp), hok, .of_eq hg⟩
  have hl : vals.length = ps.length := by rw [wellAll_len hwl]; exact hlen
  refine codeAny_mono ((F _ hKb (nsK hns)).run callerA [] s₁ H ⟨vals, []⟩ vals (vals.map toV) _ _ hr e0 (hbind s₁ vals hl) hV (hsp H _ hO hS)) fun r s' x => ?_
  cases r with
  | error e => exact (hCX H e s' x).elim
  | ok fl =>
    cases fl with
    | next => exact False.elim x
    | brk => exact False.elim x
    | cont => exact False.elim x
    | ret u =>
      obtain ⟨v, H', os, bare, un, hok', r', q⟩ := x
      have kept : ∀ b o, s₁.heap.get? b = some o → s'.heap.get? b = some o := fun b o e => by
        cases q2 : H b with
        | none => exact un.keep b o e q2 (by intro z; exact absurd (show b ∈ ([] : List Addr) from z) (by simp)) (by simp)
        | some u2 =>
          rcases hO b with z | ⟨ob, u3, z⟩
          · rw [q2] at z
            cases z
          · have z2 := un.frzs b ob _ z
            obtain ⟨e1, _⟩ := hok b _ z
            obtain ⟨e2, _⟩ := hok' b _ z2
            rw [e] at e1
            cases e1
            exact e2
      have KX' : K.In s'.heap := fun b o e => kept b o (KX b o e)
      obtain ⟨as, hrd⟩ := Dw.reads (R := R) (cl := cl) hok' KX' d0 v u q r'
      exact ⟨u, as, rfl, hrd, OldK.of_keep kept, os, bare⟩
theorem layable_weight {ds : List WData} (h : WData.layableAll ds = true) : ∀ d ∈ ds, d.weight ≤ 1048576 := fun d hd =>
  (PySem.W.layableW_iff.mp (List.all_eq_true.mp h d hd)).2.2
theorem encAll_len : ∀ (cs : List Codec) (a : Codec.denoteAll cs), (Codec.encAll cs a).length = cs.length
  | [], _ => rfl
  | c :: cs, a => by
    show (Codec.encAll cs a.2).length + 1 = cs.length + 1
    rw [encAll_len cs a.2]
theorem walk_spec {r : OpenSpec} {k : Nat} {q : Program} {loose : List Str} {XP : (Str → Option Value) → Heap → Prop} {YP : World → Heap → Prop} {d : DefRec} {K : Params → PySem.W.Frag} {CX : World → CXT} {ps : List Str} {sp : World → Sp}
    (hwell : r.wellSaid = true) (hdf : d.params.defaults = []) (hlen : r.args.length = ps.length) (hr : Room k callerA)
    (hY : ∀ (w : World) (h : Heap), YP w h → (K w.params).In h)
    (F : ∀ (w : World) (mg : Str → Option Value) (fa : Addr) (h : Heap), YP w h → (K w.params).In h → h.Ns mainGlobals mg → mg d.name = some (.ref fa) →
      ∃ fd : FuncData, (∀ (s : Shared) (us : List Value), us.length = ps.length → BindsTo s fd ⟨us, []⟩ (ps.zip us)) ∧
        ∀ base : Heap, (K w.params).In base → base.Ns mainGlobals mg → FnOk r.prog w (K w.params) mg base (CX w) k fa fd ps (sp w))
    (hsp : ∀ (w : World) (H : Hp) (xs : List V) (a : Codec.denoteAll r.args), OnlyF H → Codec.withinAll r.args a = true → Codec.app r.args r.asked a = true → DwAll (K w.params) H xs (Codec.encAll r.args a) →
      sp w xs H (fun v H' => Dw (K w.params) H' v (r.ret.enc (Codec.app r.args r.f a))) fun _ _ _ => False)
    (hCX : ∀ (w : World) (H : Hp) (s : Shared) (e : Value) (s' : Shared), CX w [] H s (fun _ _ _ => False) e s' → False) :
    PySem.W.WalkOS q loose XP YP r d [] (fun f vs => PySem.call f vs) := by
  intro w s_0 s₁ mg mb G Y fa o pm cd doc dV kV ho hd hcd hD hmg hg args vals as hpre hlay hrd hwl hlo
  obtain ⟨a, e1, e2⟩ := PySem.W.os_pre_some hpre
  obtain ⟨e3, hwi⟩ := Codec.encAll_of_decAll r.args args a e1
  subst e3
  have KX := hY w _ Y
  obtain ⟨fd, hb, hF⟩ := F w mg fa _ Y KX G.T.g hmg
  refine PySem.W.enter_call (codeAny_mono (spec_call (R := []) (cl := classAt s_0.heap) (d0 := r.ret.enc (Codec.app r.args r.f a)) KX G.T.g G.T.b G.T.builtins G.T.nolimit hg hwl (pl_encAll _ _) (layable_weight hlay) hr hF hb (by rw [encAll_len]; exact hlen)
    (fun H xs hO hS => hsp w H xs a hO hwi e2 hS) fun H e s' => hCX w H s₁ e s') fun r' s' hq => ?_)
  obtain ⟨u, as', rfl, h1, h2, h3, h4⟩ := hq
  exact ⟨.inl ⟨u, _, as', rfl, fun _ => rfl, h1, (OpenSpec.post_iff hwell hwi _ _).mpr rfl, fun z => Bool.noConfusion (show false = true from z)⟩, h2, h3, h4⟩
theorem walk_specK {r : OpenSpec} {k : Nat} {q : Program} {loose : List Str} {XP : (Str → Option Value) → Heap → Prop} {YP : World → Heap → Prop} {d : DefRec} {K : Params → PySem.W.Frag} {CX : CXT} {ps : List Str} {sp : PySem.W.Frag → Sp}
    (hwell : r.wellSaid = true) (hdf : d.params.defaults = []) (hlen : r.args.length = ps.length) (hr : Room k callerA)
    (hY : ∀ (w : World) (h : Heap), YP w h → (K w.params).In h)
    (F : ∀ (w : World) (mg : Str → Option Value) (fa : Addr) (h : Heap), YP w h → (K w.params).In h → h.Ns mainGlobals mg → mg d.name = some (.ref fa) →
      ∃ fd : FuncData, (∀ (s : Shared) (us : List Value), us.length = ps.length → BindsTo s fd ⟨us, []⟩ (ps.zip us)) ∧
        ∀ base : Heap, (K w.params).In base → base.Ns mainGlobals mg → FnOk r.prog w (K w.params) mg base CX k fa fd ps (sp (K w.params)))
    (hsp : ∀ (K : PySem.W.Frag) (H : Hp) (xs : List V) (a : Codec.denoteAll r.args), OnlyF H → Codec.withinAll r.args a = true → Codec.app r.args r.asked a = true → DwAll K H xs (Codec.encAll r.args a) →
      sp K xs H (fun v H' => Dw K H' v (r.ret.enc (Codec.app r.args r.f a))) fun _ _ _ => False)
    (hCX : ∀ (H : Hp) (s : Shared) (e : Value) (s' : Shared), CX [] H s (fun _ _ _ => False) e s' → False) :
    PySem.W.WalkOS q loose XP YP r d [] (fun f vs => PySem.call f vs) :=
  walk_spec (K := K) (CX := fun _ => CX) (sp := fun w => sp (K w.params)) hwell hdf hlen hr hY F (fun w H xs a h1 h2 h3 h4 => hsp (K w.params) H xs a h1 h2 h3 h4) fun _ H s e s' => hCX H s e s'
end L2
end

section
namespace L2
open PySem PySem.Spec PyProof.Rows
theorem Sz.bits {n : Nat} {i : Int} (h : Sz n i) : Builtin.Int.intBits i ≤ n := by
  unfold Sz at h
  unfold Builtin.Int.intBits
  split
  · exact Nat.zero_le _
  · rename_i c
    have c0 : i ≠ 0 := by simpa using c
    have : i.natAbs.log2 < n := (Nat.log2_lt (by omega)).mpr h
    omega
def CMulB (i j : Int) : Prop := ∃ m n, Sz m i ∧ Sz n j ∧ m + n ≤ 100000000
def CDivB (_i j : Int) : Prop := 0 < j ∧ j.natAbs.log2 < 9000
def CShlB (i j : Int) : Prop := 0 ≤ j ∧ ∃ m : Nat, Sz m i ∧ (m : Int) + j ≤ 100000000
theorem CMulB.ok {i j : Int} (h : CMulB i j) : IntMulOk i j := by
  obtain ⟨m, n, h1, h2, h3⟩ := h
  exact IntMulOk.of_le h1.bits h2.bits (by omega)
section
variable {X : Cx}
theorem op_mulB : OpR X (binaryOp .Mult) (rI CMulB fun i j => .int (i * j)) := opI fun _ _ _ _ _ _ _ hc q => mul_int q hc.ok
theorem op_fdivB : OpR X (binaryOp .FloorDiv) (rI CDivB fun i j => .int (i / j)) := opI fun i j _ _ _ _ _ hc q => by
  have h1 : (0 : Int) < j := hc.1
  exact floordiv_int (by omega) (by rw [Int.fdiv_eq_ediv_of_nonneg i (by omega)]; exact q) (.inl (PyProof.noPylong_of_log2 hc.2))
theorem iop_fdivB : OpR X (inplaceOp .FloorDiv) (rI CDivB fun i j => .int (i / j)) := opI fun i j _ _ _ _ _ hc q => by
  have h1 : (0 : Int) < j := hc.1
  exact ifloordiv_int (by omega) (by rw [Int.fdiv_eq_ediv_of_nonneg i (by omega)]; exact q) (.inl (PyProof.noPylong_of_log2 hc.2))
theorem op_shlB : OpR X (binaryOp .LShift) (rI CShlB fun i j => .int (i * 2 ^ j.toNat)) := opI fun i j _ _ _ _ _ hc q => by
  obtain ⟨h0, m, h1, h2⟩ := hc
  have := h1.bits
  exact lshift_int h0 (by omega) q
theorem pip_of {op : Operator} {r : R2} (h : OpR X (inplaceOp op) r) : PIp X op r := h
theorem pe_globE {x : Str} {v : V} {pos : Pos} (hg : Gl X x) (h : ∃ u, X.mg x = some u ∧ RelV v u) (hd : (x == ("__debug__" : Str)) = false := by decide) : PE X (.Name x pos) (tC v) := by
  obtain ⟨u, h1, h2⟩ := h
  exact pe_glob hg h1 h2 hd
end
def seqC (T : String) (o : Obj) (xs : List V) : Bool := (match o.cls with | .type n => n == T | _ => false) && o.dict.isNone && (match o.data with | .seq its _ => decide (its.size ≤ 1000) && decide (its.toList.map absV = xs.map some) | _ => false)
abbrev seqTC := seqC "tuple"
theorem vals_abs : ∀ {us : List Value} {xs : List V}, us.map absV = xs.map some → Vals xs us
  | [], [], _ => .nil
  | [], _ :: _, e => by simp at e
  | _ :: _, [], e => by simp at e
  | u :: us, x :: xs, e => by
    rw [List.map_cons, List.map_cons] at e
    injection e with e1 e2
    refine .cons ?_ (vals_abs e2)
    cases u <;> simp [absV] at e1 <;> subst e1 <;> first | rfl | exact ⟨_, rfl⟩
theorem seqC_get {T : String} {o : Obj} {xs : List V} (h : seqC T o xs = true) : o.cls = .type T ∧ o.dict = none ∧ ∃ its n, o.data = .seq its n ∧ its.size ≤ sizeLine ∧ Vals xs its.toList := by
  unfold seqC at h
  rw [Bool.and_eq_true, Bool.and_eq_true] at h
  obtain ⟨⟨h1, h2⟩, h3⟩ := h
  refine ⟨?_, by simpa using h2, ?_⟩
  · split at h1
    · rename_i e
      rw [e]
      rw [beq_iff_eq.mp h1]
    · cases h1
  · split at h3
    · rename_i its n e
      rw [Bool.and_eq_true, decide_eq_true_eq, decide_eq_true_eq] at h3
      exact ⟨its, n, e, Nat.le_trans h3.1 (by decide), vals_abs h3.2⟩
    · cases h3
theorem seqT_of {K : PySem.W.Frag} {H : Hp} {a : Addr} {o : Obj} {xs : List V} (h : K.lookup a = some o) (i : seqTC o xs = true) : SqT K H a xs := by
  obtain ⟨h1, h2, its, n, h3, h4, h5⟩ := seqC_get i
  exact .inr ⟨o, its, n, h, h1, h3, h4, h5⟩
theorem Same.refl2 {H : Hp} : Same H H := fun _ _ h => h
theorem Same.new {H : Hp} {p : Addr} {o : HO} (hp : H p = none) : Same H (upd H p o) := fun b u e => by
  rw [upd_ne (ne_of_none e hp)]; exact e
theorem leaf {Q : VK} {H H' : Hp} {v x : V} (k : ∀ H', Same H H' → Q v H') (s : Same H H') (e : v = x) : Q x H' := by
  subst e; exact k _ s
end L2
namespace L2
open PySem PySem.Spec PyProof.Rows
theorem iteB {b : Bool} {A B : Prop} (h1 : b = true → A) (h2 : b = false → B) : if b = true then A else B := by
  cases b
  · rw [if_neg (by decide)]; exact h2 rfl
  · rw [if_pos rfl]; exact h1 rfl
theorem inV_int (c : Int) (l : List V) : inV (.int c) l = l.any fun y => eqV y (.int c) := rfl
theorem eqV_int (a c : Int) : eqV (.int a) (.int c) = decide (c = a) := by
  show (a == c) = _
  by_cases h : a = c
  · subst h; simp
  · have h2 : ¬ c = a := fun e => h e.symm
    simp [h, h2]
def valI : List (Int × V) → Int → Option V
  | [], _ => none
  | (a, v) :: r, k => if a = k then some v else valI r k
end L2
namespace L2
open PySem PySem.Spec PyProof.Rows
def entC (e : DictEntry) (p : Int × V) : Bool := (match e.key with | .int k _ => decide (k = p.1) && decide (e.hash = hashInt k) | _ => false) && decide (absV e.val = some p.2)
def entsC : List DictEntry → List (Int × V) → Bool
  | [], [] => true
  | e :: es, p :: ps => entC e p && entsC es ps
  | _, _ => false
def dictC (o : Obj) (kvs : List (Int × V)) : Bool := (match o.cls with | .type n => n == "dict" | _ => false) && o.dict.isNone && decide (o.slots.size = 0) && (match o.data with | .dict es _ => entsC es.toList kvs | _ => false)
def DictK (K : PySem.W.Frag) (a : Addr) (kvs : List (Int × V)) : Prop := ∃ o, K.lookup a = some o ∧ dictC o kvs = true
theorem dict_of {K : PySem.W.Frag} {a : Addr} {o : Obj} {kvs : List (Int × V)} (h : K.lookup a = some o) (i : dictC o kvs = true) : DictK K a kvs := ⟨o, h, i⟩
theorem rel_abs {u : Value} {x : V} (e : absV u = some x) : RelV x u := by
  cases u <;> simp [absV] at e <;> subst e <;> first | rfl | exact ⟨_, rfl⟩
theorem entC_get {e : DictEntry} {p : Int × V} (h : entC e p = true) : (∃ t, e.key = .int p.1 t) ∧ e.hash = hashInt p.1 ∧ RelV p.2 e.val := by
  unfold entC at h
  rw [Bool.and_eq_true, decide_eq_true_eq] at h
  obtain ⟨h1, h2⟩ := h
  split at h1
  · rename_i k t ek
    rw [Bool.and_eq_true, decide_eq_true_eq, decide_eq_true_eq] at h1
    obtain ⟨e1, e2⟩ := h1
    subst e1
    exact ⟨⟨t, ek⟩, e2, rel_abs h2⟩
  · cases h1
theorem ents_keys : ∀ {es : List DictEntry} {kvs : List (Int × V)}, entsC es kvs = true → ∀ e ∈ es, ∃ k : Int, Value.isInt k e.key = true ∧ e.hash = hashInt k
  | [], _, _, e, he => by cases he
  | a :: es, [], h, _, _ => by cases h
  | a :: es, p :: ps, h, e, he => by
    have h : (entC a p && entsC es ps) = true := h
    rw [Bool.and_eq_true] at h
    rcases List.mem_cons.mp he with q | q
    · subst q
      obtain ⟨⟨t, ek⟩, hh, _⟩ := entC_get h.1
      exact ⟨p.1, by rw [ek]; simp [Value.isInt], hh⟩
    · exact ents_keys h.2 e q
theorem ents_find : ∀ {es : List DictEntry} {kvs : List (Int × V)} {k : Int} {v : V}, entsC es kvs = true → valI kvs k = some v → ∃ u, (es.find? fun e => Value.isInt k e.key).map (·.val) = some u ∧ RelV v u
  | [], [], _, _, _, e => by cases e
  | [], _ :: _, _, _, h, _ => by cases h
  | _ :: _, [], _, _, h, _ => by cases h
  | a :: es, p :: ps, k, v, h, e => by
    have h : (entC a p && entsC es ps) = true := h
    rw [Bool.and_eq_true] at h
    obtain ⟨⟨t, ek⟩, _, rv⟩ := entC_get h.1
    have e : (if p.1 = k then some p.2 else valI ps k) = some v := e
    by_cases c : p.1 = k
    · rw [if_pos c] at e
      cases e
      have q : Value.isInt k a.key = true := by rw [ek, c]; simp [Value.isInt]
      rw [List.find?_cons, q]
      exact ⟨_, rfl, rv⟩
    · rw [if_neg c] at e
      have q : Value.isInt k a.key = false := by rw [ek]; simp [Value.isInt, c]
      rw [List.find?_cons, q]
      exact ents_find h.2 e
theorem dictK_map {X : Cx} {pins : List (Addr × Obj)} {σ : St} {H : Hp} {s : Shared} {a : Addr} {kvs : List (Int × V)} (I : Inv X pins σ H s) (d : DictK X.K a kvs) :
    ∃ es, entsC es kvs = true ∧ s.heap.MapOf (intKind X.prog X.w) a (fun k => (es.find? fun e => Value.isInt k e.key).map (·.val)) := by
  obtain ⟨o, h1, h2⟩ := d
  have g := I.kIn _ _ h1
  unfold dictC at h2
  rw [Bool.and_eq_true, Bool.and_eq_true, Bool.and_eq_true, decide_eq_true_eq] at h2
  obtain ⟨⟨⟨c1, c2⟩, c3⟩, c4⟩ := h2
  have cl : o.cls = .type "dict" := by
    split at c1
    · rename_i e
      rw [e, beq_iff_eq.mp c1]
    · cases c1
  split at c4
  · rename_i es ep ed
    refine ⟨es.toList, c4, o, es, ep, g, ⟨cl, by simpa using c2, by simpa using c3⟩, ed, fun e he => ents_keys c4 e (by simpa using he), fun k => ?_⟩
    unfold findBy
    rw [← Array.find?_toList]
    rfl
  · cases c4
theorem isInt_self (k : Int) (t : Tok) : Value.isInt k (.int k t) = true := by simp [Value.isInt]
def tDGetK (K : PySem.W.Frag) (td ty : TE) : TE := fun σ H Q => td σ H fun x H1 => ty σ H1 fun y H2 => ∃ a v, x = .ref a ∧ ∃ kvs k, DictK K a kvs ∧ y = .int k ∧ valI kvs k = some v ∧ Q v H2
theorem pe_dgetK {X : Cx} {o i : Expr} {pos : Pos} {td ty : TE} (_hu : X.A.units + 1 < cLine) (ho : PE X o td) (hi : PE X i ty) (hs : NoSl i) : PE X (.Subscript o i pos) (tDGetK X.K td ty) := by
  intro pins s σ H Q I h
  refine subD_of PySem.F.slot_dict_getitem.lookup hs (thn (ho pins s σ H _ I h) fun u s1 ⟨x, H1, I1, rx, q1⟩ => thn (hi pins s1 σ H1 _ I1 q1) fun iv s2 ⟨y, H2, I2, ry, a, v, ex, kvs, k, dk, ey, g, q2⟩ => ?_)
  subst ex
  subst ey
  obtain rfl : u = Value.ref a := rx
  obtain ⟨t, rfl⟩ := ry
  obtain ⟨es, he, hm⟩ := dictK_map I2 dk
  obtain ⟨w', hw, rw'⟩ := ents_find he g
  exact ⟨hm.typeIs, wpAny_getItem_of (knd := intKind X.prog X.w) (k := k) (isInt_self k t) hm hw ⟨v, H2, I2.tok _, rw', q2⟩⟩
section
variable {X : Cx}
end
end L2
namespace L2
open PySem PySem.Spec PyProof.Rows
end L2
namespace L2
open PySem PySem.Spec PyProof.Rows
end L2
end
section
namespace L2
open PySem PySem.Spec PyProof.Rows
open AutoSeq1 (wpAny_loadPart')
section
variable {prog : Program} {w : World} {A : Around} {E : Value → Shared → Prop} {s : Shared}
end
end L2
end
section
namespace L2
open PySem PySem.Spec PyProof.Rows
section
variable {X : Cx}
theorem op_eqI : OpR X (compareOp .Eq) (rI0 fun i j => .bl (decide (i = j))) := by
  intro pins s σ H x y v u Q I rx ry h
  obtain ⟨i, j, rfl, rfl, q⟩ := h
  refine op_eq pins s σ H _ _ v u Q I rx ry ⟨rfl, ?_⟩
  have e : decide (V.int i = V.int j) = decide (i = j) := by rw [Bool.eq_iff_iff]; simp
  rw [e]; exact q
theorem op_neI : OpR X (compareOp .NotEq) (rI0 fun i j => .bl (decide (¬ i = j))) := by
  intro pins s σ H x y v u Q I rx ry h
  obtain ⟨i, j, rfl, rfl, q⟩ := h
  refine op_ne pins s σ H _ _ v u Q I rx ry ⟨rfl, ?_⟩
  have e : (!decide (V.int i = V.int j)) = decide (¬ i = j) := by rw [Bool.eq_iff_iff]; simp
  rw [e]; exact q
theorem inV_ints (i : Int) : ∀ xs : List Int, inV (.int i) (xs.map V.int) = decide (i ∈ xs)
  | [] => by rw [inV_int]; simp
  | x :: xs => by
    have ih := inV_ints i xs
    rw [inV_int] at ih ⊢
    rw [List.map_cons, List.any_cons, ih, eqV_int, Bool.eq_iff_iff]
    simp
theorem flat_ints : ∀ xs : List Int, (xs.map V.int).all flatV = true
  | [] => rfl
  | x :: xs => by rw [List.map_cons, List.all_cons, flat_ints xs]; rfl
theorem op_inI : OpR X (compareOp .In) (fun x y H Q => ∃ (i : Int) (p : Addr) (xs : List Int), x = .int i ∧ y = .ref p ∧ SqT X.K H p (xs.map V.int) ∧ Q (.bl (decide (i ∈ xs))) H) := by
  intro pins s σ H x y v u Q I rx ry h
  obtain ⟨i, p, xs, rfl, rfl, hq, q⟩ := h
  refine op_in_seq pins s σ H _ _ v u Q I rx ry ⟨p, _, rfl, .inr hq, rfl, flat_ints xs, ?_⟩
  rw [if_neg (by decide), inV_ints]; exact q
theorem op_notInI : OpR X (compareOp .NotIn) (fun x y H Q => ∃ (i : Int) (p : Addr) (xs : List Int), x = .int i ∧ y = .ref p ∧ SqT X.K H p (xs.map V.int) ∧ Q (.bl (decide (¬ i ∈ xs))) H) := by
  intro pins s σ H x y v u Q I rx ry h
  obtain ⟨i, p, xs, rfl, rfl, hq, q⟩ := h
  refine op_notIn_seq pins s σ H _ _ v u Q I rx ry ⟨p, _, rfl, .inr hq, rfl, flat_ints xs, ?_⟩
  have e : (!inV (.int i) (xs.map V.int)) = decide (¬ i ∈ xs) := by rw [inV_ints, Bool.eq_iff_iff]; simp
  rw [if_pos rfl, e]; exact q
end
def rf (t b : Int) : List (Str × V) := putF "bottom" (.int b) (putF "top" (.int t) [])
theorem rf_top (t b : Int) : (rf t b).lookup ("top" : Str) = some (.int t) := by
  unfold rf
  rw [lookup_putF, if_neg (by decide +kernel), lookup_putF, if_pos rfl]
theorem rf_bottom (t b : Int) : (rf t b).lookup ("bottom" : Str) = some (.int b) := by
  unfold rf
  rw [lookup_putF, if_pos rfl]
def RatAt (C : Addr) (H : Hp) (a : Addr) (t b : Int) : Prop := ∃ dx, H a = some (.ins C dx (rf t b))
theorem RatAt.keep {C : Addr} {H H' : Hp} {a : Addr} {t b : Int} (s : Same H H') (h : RatAt C H a t b) : RatAt C H' a t b := h.imp fun _ e => s _ _ e
def sp_Ratio_init (C : Addr) : Sp := fun vs H Q _ => ∃ (p dx : Addr) (t b : Int), vs = [.ref p, .int t, .int b] ∧ H p = some (.ins C dx []) ∧ ∀ H' : Hp, RatAt C H' p t b → (∀ a o, H a = some o → a ≠ p → H' a = some o) → Q .non H'
theorem fld_top {K : PySem.W.Frag} {C : Addr} {H : Hp} {a : Addr} {t b : Int} {Q : V → Prop} (h : RatAt C H a t b) (c : Cls K C) (n : NoAttr K C "top") (q : Q (.int t)) :
    ∃ (a' : Addr) (C' dx : Addr) (fs : List (Str × V)) (v : V), V.ref a = V.ref a' ∧ H a' = some (.ins C' dx fs) ∧ Cls K C' ∧ NoAttr K C' "top" ∧ fs.lookup ("top" : Str) = some v ∧ Q v := by
  obtain ⟨dx, h⟩ := h
  exact ⟨a, C, dx, _, _, rfl, h, c, n, rf_top _ _, q⟩
theorem fld_bottom {K : PySem.W.Frag} {C : Addr} {H : Hp} {a : Addr} {t b : Int} {Q : V → Prop} (h : RatAt C H a t b) (c : Cls K C) (n : NoAttr K C "bottom") (q : Q (.int b)) :
    ∃ (a' : Addr) (C' dx : Addr) (fs : List (Str × V)) (v : V), V.ref a = V.ref a' ∧ H a' = some (.ins C' dx fs) ∧ Cls K C' ∧ NoAttr K C' "bottom" ∧ fs.lookup ("bottom" : Str) = some v ∧ Q v := by
  obtain ⟨dx, h⟩ := h
  exact ⟨a, C, dx, _, _, rfl, h, c, n, rf_bottom _ _, q⟩
theorem leafR {C : Addr} {Q : VK} {H H' : Hp} {p : Addr} {v u : Int × Int} (k : ∀ (H' : Hp) (p : Addr), Same H H' → RatAt C H' p v.1 v.2 → Q (.ref p) H') (s : Same H H') (hp : RatAt C H' p u.1 u.2) (e : v = u) : Q (.ref p) H' := by
  subst e; exact k _ _ s hp
end L2
namespace L2
theorem cmul {m n : Nat} {i j : Int} (h : Sz m i) (g : Sz n j) (l : m + n ≤ 100000000 := by decide) : CMulB i j := ⟨m, n, h, g, l⟩
theorem cdiv {n : Nat} {i j : Int} (h0 : 0 < j) (h : Sz n j) (l : n ≤ 9000 := by decide) (p : 0 < n := by decide) : CDivB i j := ⟨h0, Nat.lt_of_lt_of_le (h.log p) l⟩
theorem cshl {m : Nat} {i j : Int} (h0 : 0 ≤ j) (h : Sz m i) (hj : j ≤ 1000000) (l : m ≤ 1000000 := by decide) : CShlB i j := ⟨h0, m, h, by omega⟩
end L2
end
section
namespace PySem
open PyProof.Rows PySem.W
theorem rev_no_len : typeLookup (.type "list_reverseiterator") "__len__" = pure none := by rw [typeLookup_type, builtinLookup_eq_fast]; kernel_rfl
theorem rev_has_hint : typeLookup (.type "list_reverseiterator") "__length_hint__" = pure (some (.builtin "list_reverseiterator.__length_hint__")) := by rw [typeLookup_type, builtinLookup_eq_fast]; kernel_rfl
section
variable {prog : Program} {w : World} {A : Around} {E : Value → Shared → Prop} {s : Shared} {r : Addr}
theorem rev_hint {Q : Bool → Shared → Prop} (hT : s.TypeIs (.ref r) "list_reverseiterator") (h : Q false s) : wpAny (model prog w) A (Builtin.List.listLengthHint (.ref r)) Q E s := by
  unfold Builtin.List.listLengthHint
  refine wpAny_bind (wpAny_specialOf hT rev_no_len ?_)
  show wpAny _ A (specialOf (Value.ref r) (Str.ofString "__length_hint__") >>= _) _ _ _
  refine wpAny_bind (wpAny_specialOf hT rev_has_hint ?_)
  generalize hid : ("list_reverseiterator.__length_hint__" : String) = id0
  wp_delta
  rw [show splitId id0 = some ("list_reverseiterator", "__length_hint__") from by subst hid; decide +kernel]
  subst hid
  refine wpAny_bind (wpAny_isInstance (T := "list_reverseiterator") (b := true) hT (by rw [isSubtype_type]; kernel_rfl) ?_)
  refine wpAny_ite_split (fun hab => absurd hab (by decide)) (fun _ => ?_)
  refine wpAny_ite_split (fun _ => ?_) (fun hab => absurd (by decide +kernel) hab)
  refine wpAny_ite_split (fun hab => absurd hab (by decide +kernel)) (fun _ => ?_)
  exact wpAny_pure h
end
section
variable {prog : Program} {w : World} {A : Around} {s : Shared} {R : Result → Shared → Prop}
variable {I : Addr} {fp wr : List Addr} {G : Array GenState → Array GenState → Prop} {n : Nat} {P : Nat → Value → Prop} {St : Nat → Shared → Prop}
theorem rev_extend (W : WalksS prog w A.in1 I fp wr G n P St) (hT : ∀ i s, St i s → s.TypeIs (.ref I) "list_reverseiterator") (S : Addr) (res : Value) (c₀ : Nat) (hst : St 0 s) (hSf : S ∉ fp) (hI : I ∈ fp)
    (hS : s.heap.get? S = some { cls := .type "list", data := .seq #[] c₀ })
    (hR : ∀ s' acc' c', Moved (S :: wr) G s s' → s'.heap.get? S = some { cls := .type "list", dict := none, data := .seq acc' c', slots := #[] } → ItemsOf P acc' n → R (.ok (.ret res)) s') (hn : n ≤ sizeLine) :
    wpAny (model prog w) A.in1 (Builtin.List.listExtendWith (.ref S) (.ref I) res)
      (fun fin s' => match fin with | .done f => R (.ok f) s' | .again c' => c'.quiet = true ∧ codeAny (model prog w) A c' R s') (fun e s' => R (.error e) s') s := by
  have hSI : S ≠ I := fun e => hSf (e ▸ hI)
  unfold Builtin.List.listExtendWith
  refine wpAny_bind (wpAny_typeOf (hT 0 _ hst) ?_)
  have h1 : Builtin.List.listSameRef (.ref S) (.ref I) = false := by simp [Builtin.List.listSameRef, hSI]
  have h2 : (Value.type "list_reverseiterator" == Value.type "list") = false := by decide
  have h3 : (Value.type "list_reverseiterator" == Value.type "tuple") = false := by decide
  simp only [h1, h2, h3, Bool.or_false, Bool.false_eq_true, if_false]
  refine wpAny_bind (W.self 0 _ _ _ hst ?_)
  refine wpAny_bind (wpAny_holding (rev_hint (hT 0 _ hst) ?_))
  refine wpAny_ite_split (fun hab => absurd hab (by decide)) (fun _ => wpAny_pure ⟨plainId_quiet F.plain_extend_loop _, codeAny_extend_loopS W hn _ hSf _ n 0 _ _ _ rfl (Nat.zero_le _) hst hS (ItemsOf.nil P) fun s' acc' c' hm hS' hacc => ?_⟩)
  exact hR s' acc' c' hm hS' hacc
theorem rev_init (W : WalksS prog w A.in1 I fp wr G n P St) (hT : ∀ i s, St i s → s.TypeIs (.ref I) "list_reverseiterator") (S : Addr) (hst : St 0 s) (hSf : S ∉ fp) (hI : I ∈ fp)
    (hS : s.heap.get? S = some { cls := .type "list", data := .seq #[] })
    (hR : ∀ s' acc' c', Moved (S :: wr) G s s' → s'.heap.get? S = some { cls := .type "list", dict := none, data := .seq acc' c', slots := #[] } → ItemsOf P acc' n → R (.ok (.ret .none)) s') (hn : n ≤ sizeLine) :
    wpAny (model prog w) A.in1 (Builtin.«list.__init__» ⟨[.ref S, .ref I], []⟩)
      (fun fin s' => match fin with | .done f => R (.ok f) s' | .again c' => c'.quiet = true ∧ codeAny (model prog w) A c' R s') (fun e s' => R (.error e) s') s := by
  show wpAny _ A.in1 (do let old ← Builtin.List.listItems (.ref S); Builtin.List.listUpdate (.ref S) (fun _ => #[]); letGo old.toList.reverse; Builtin.List.listExtendWith (.ref S) (.ref I) .none) _ _ s
  refine wpAny_bind ?_
  unfold Builtin.List.listItems
  refine wpAny_bind (wpAny_seqItems hS rfl (wpAny_pure ?_))
  show wpAny _ A.in1 (updateSeq S (fun _ => #[]) >>= fun _ => letGo (#[] : Array Value).toList.reverse >>= fun _ => Builtin.List.listExtendWith (.ref S) (.ref I) .none) _ _ s
  refine wpAny_bind (wpAny_updateSeq hS rfl ?_)
  have hS₂ := Heap.get?_update_self (Obj.mapSeq (fun _ => (#[] : Array Value))) hS rfl
  have oth : ∀ b o, b ≠ S → s.heap.get? b = some o → (s.heap.update S (Obj.mapSeq (fun _ => (#[] : Array Value)))).get? b = some o :=
    fun b o hb e => (Heap.get?_update_other _ _ (Ne.symm hb)).trans e
  refine wpAny_bind (wpAny_letGo ?_)
  refine rev_extend W hT S .none _ (W.frame 0 s _ s.toks hst (Nat.le_refl _) fun b hb o e => oth b o (fun h => hSf (h ▸ hb)) e) hSf hI hS₂ (fun s' acc' c' hm hS' hacc => ?_) hn
  exact hR s' acc' c' (Moved.trans W.gtrans ((Moved.refl W.grefl).then_heap (Nat.le_refl _) fun b o hb e => oth b o (fun h => hb (h ▸ List.mem_cons_self)) e) hm) hS' hacc
end
theorem rev_call {prog : Program} {w : World} {A : Around} {E : Value → Shared → Prop} {s : Shared} {I : Addr} {fp wr : List Addr} {G : Array GenState → Array GenState → Prop} {n : Nat} {P : Nat → Value → Prop} {St : Nat → Shared → Prop} {Q : Value → Shared → Prop}
    (W : WalksS prog w A.in1.in1 I fp wr G n P St) (hT : ∀ i s, St i s → s.TypeIs (.ref I) "list_reverseiterator") (hst : St 0 s) (hfp : ∀ b ∈ fp, b < s.heap.objs.size) (hI : I ∈ fp)
    (hQ : ∀ s' acc' c', Moved (s.heap.objs.size :: wr) G { s with heap := s.heap.push { cls := .type "list", data := .seq #[] } } s' →
      s'.heap.get? s.heap.objs.size = some { cls := .type "list", dict := none, data := .seq acc' c', slots := #[] } → ItemsOf P acc' n → Q (.ref s.heap.objs.size) s') (hn : n ≤ sizeLine) :
    wpAny (model prog w) A (call (.type "list") [.ref I]) Q E s := by
  have hSf : s.heap.objs.size ∉ fp := fun hm => Nat.lt_irrefl _ (hfp _ hm)
  refine callType_codes (Q₁ := fun obj s₁ => obj = .ref s.heap.objs.size ∧ s₁ = { s with heap := s.heap.push { cls := .type "list", data := .seq #[] } }) F.called_list (F.typeCall_list_1 _) F.entry_list_init
    (code_list_new _ ⟨rfl, rfl⟩) fun obj s₁ h₁ => ?_
  obtain ⟨rfl, rfl⟩ := h₁
  have hS : (s.heap.push { cls := .type "list", data := .seq #[] }).get? s.heap.objs.size = some { cls := .type "list", data := .seq #[] } := Heap.get?_push_size _ rfl
  refine ⟨⟨_, hS, rfl⟩, F.args_list_init_2 _ _, rev_init W hT _ (W.frame 0 s _ s.toks hst (Nat.le_refl _) fun b _ o e => Heap.get?_push_of_some _ e) hSf hI hS (fun s' acc' c' hm hS' hacc => ?_) hn⟩
  exact ⟨rfl, hQ s' acc' c' hm hS' hacc⟩
end PySem
namespace L2
open PySem PySem.Spec PyProof.Rows
theorem iadd_no_fill : fillsInplaceSlot (.type "list") "add" (Operator.Add == .Add) = pure false := by
  unfold fillsInplaceSlot
  show (typeLookup (.type "list") (dunderI "add") >>= fun fi => pure (fi.isSome && !isSeqSlot fi)) = pure false
  rw [F.slot_list_iadd.lookup]
  have h : isSeqSlot (some (.builtin "list.__iadd__")) = true := by decide +kernel
  show (pure ((some (Value.builtin "list.__iadd__")).isSome && !isSeqSlot (some (.builtin "list.__iadd__"))) : Sem Bool) = pure false
  rw [h]; rfl
theorem iadd_seq : seqSlot? (.type "list") (dunderI "add") = pure (some (.builtin "list.__iadd__")) := PySem.seqSlot_of F.slot_list_iadd.lookup (by decide +kernel)
def rCatIn : R2 := fun x y H Q => ∃ l b xs zs, x = .ref l ∧ y = .ref b ∧ H l = some (.lst xs) ∧ H b = some (.lst zs) ∧ xs.length + zs.length ≤ sizeLine ∧ Q (.ref l) (upd H l (.lst (xs ++ zs)))
theorem iop_cat {X : Cx} : OpR X (inplaceOp .Add) rCatIn := by
  intro pins s σ H x y v u Q I rx ry h
  obtain ⟨l, b, xs, zs, rfl, rfl, hH, hB, hz, q⟩ := h
  cases rx
  cases ry
  obtain ⟨z, its, n, r, hl, e⟩ := I.lstM hH
  obtain ⟨z2, its2, n2, r2, hl2, e2⟩ := I.lstM hB
  have hsz : its.toArray.size + its2.toArray.size ≤ sizeLine := by rw [List.size_toArray, List.size_toArray]; omega
  have hlong : ¬ (!its.toArray.isEmpty && Builtin.List.listTooLong (its.toArray.size + its2.toArray.size)) = true := by
    rw [notLongL hsz, Bool.and_false]
    exact Bool.false_ne_true
  have ha : s.TypeIs (.ref l) "list" := ⟨_, e, rfl⟩
  have hb : s.TypeIs (.ref b) "list" := ⟨_, e2, rfl⟩
  unfold inplaceOp
  refine wpAny_holding ?_
  refine wpAny_bind (wpAny_typeOf ha (wpAny_bind (wpAny_of_eq iadd_no_fill ?_)))
  show wpAny _ _ (if false = true then _ else _) _ _ s
  rw [if_neg Bool.false_ne_true]
  refine wpAny_bind (binaryOp1_none (nm := "add") ha hb noFill_list_add ?_)
  refine wpAny_bind (wpAny_of_eq iadd_seq ?_)
  refine wpAny_bind (wpAny_rule ?_)
  refine call_meets F.slot_list_iadd ha F.entry_list_iadd (F.args_list_iadd_2 _ _)
    (AutoSeq1.list___iadd___list_list_0 l its.toArray n b its2.toArray n2 hlong (by rw [List.size_toArray]; omega) (by omega)) ⟨e, e2, ?_⟩
  refine ⟨.ref l, _, I.lset (its' := its ++ its2) hH e (by simp) (r.append r2) ?_, rfl, q⟩
  rw [List.length_append]
  omega
theorem vals_ix : ∀ {xs : List V} {us : List Value}, us.length = xs.length → (∀ (i : Nat) (x : V) (u : Value), xs[i]? = some x → us[i]? = some u → RelV x u) → Vals xs us
  | [], [], _, _ => .nil
  | [], _ :: _, h, _ => by simp at h
  | _ :: _, [], h, _ => by simp at h
  | x :: xs, u :: us, h, k => .cons (k 0 x u rfl rfl) (vals_ix (by simpa using h) fun i y v hy hv => k (i + 1) y v (by simpa using hy) (by simpa using hv))
theorem pe_listrev {X : Cx} {e : Expr} {te : TE} {p p2 pos pos2 : Pos} (hc : X.calm = true) (hg : Gl X "list") (hm : X.mg "list" = none) (hg2 : Gl X "reversed") (hm2 : X.mg "reversed" = none) (he : PE X e te)
    (hs : starEach [.Call (.Name "reversed" p2) [e] [] pos2] X.env = [(false, eval (.Call (.Name "reversed" p2) [e] [] pos2) X.env)] := by rfl) (hs2 : starEach [e] X.env = [(false, eval e X.env)] := by rfl) :
    PE X (.Call (.Name "list" p) [.Call (.Name "reversed" p2) [e] [] pos2] [] pos) (fun σ H Q => te σ H fun x H1 => ∃ a xs, x = .ref a ∧ SqL X.K H1 a xs ∧ ∀ l, H1 l = none → Q (.ref l) (upd H1 l (.lst xs.reverse))) := by
  intro pins s σ H Q I h
  refine Call_ (ld_blt I hg hm (show bootBuiltins "list" = some (.type "list") by decide +kernel) (PyProof.Rows.callWith_type1 ?_ hs rfl))
  rw [hs]
  show wpAny _ _ (spliced [(false, eval (.Call (.Name "reversed" p2) [e] [] pos2) X.env)]) _ _ s
  refine Calls.spliced_cons ?_
  refine Call_ (ld_blt I hg2 hm2 boot_reversed5 (PyProof.Rows.callWith_type1 ?_ hs2 rfl))
  rw [hs2]
  show wpAny _ _ (spliced [(false, eval e X.env)]) _ _ s
  refine Calls.spliced_cons (thn (he pins s σ H _ I h) fun u s1 ⟨x, H1, I1, r1, a, xs, ex, hq, q⟩ => ?_)
  subst ex
  obtain rfl : u = Value.ref a := r1
  obtain ⟨its, rv, p', hz⟩ := I1.list hq
  have hl := rv.length
  refine Calls.spliced_nil ?_
  refine call_reversed_list p'.isList ?_
  refine Calls.spliced_nil ?_
  obtain ⟨oa, hoa, _⟩ := p'.isList
  have al : a < s1.heap.objs.size := Heap.lt_size hoa
  have hne : a ≠ s1.heap.objs.size := Nat.ne_of_lt al
  have W := Walks.listRev (prog := X.prog) (w := X.w) (A := X.A.in1.in1) (by exact I1.ok.hd hc) s1.heap.objs.size a hne its.toArray
  refine rev_call W.toS (fun i s st => st.2.1.typeIs) ⟨Nat.zero_le _, ?_, ?_⟩ ?_ (by simp) (fun s' acc' c' mv hS hI => ?_) (by rw [List.size_toArray]; omega)
  · refine ⟨_, Heap.get?_push_size _ rfl, rfl, ?_⟩
    simp [revObj]
  · exact p'.isList.at fun o e => Heap.get?_push_of_some _ e
  · intro b hb
    show b < (s1.heap.push _).objs.size
    rw [Heap.size_push]
    simp at hb
    rcases hb with z | z
    · rw [z]; exact Nat.lt_succ_self _
    · rw [z]; exact Nat.lt_succ_of_lt al
  · have sz : (s1.heap.push (revObj a ((its.toArray.size : Int) - 1))).objs.size = s1.heap.objs.size + 1 := Heap.size_push ..
    have hk : ∀ b o, s1.heap.get? b = some o → s'.heap.get? b = some o := fun b o eb => by
      have lt := Heap.lt_size eb
      refine mv.heap b o (fun hmem => ?_) (Heap.get?_push_of_some _ (Heap.get?_push_of_some _ eb))
      rcases List.mem_cons.mp hmem with z | z
      · have z' : b = (s1.heap.push (revObj a ((its.toArray.size : Int) - 1))).objs.size := z
        rw [z', sz] at lt
        exact absurd lt (Nat.not_lt.mpr (Nat.le_succ _))
      · rw [List.mem_singleton.mp z] at lt
        exact absurd lt (Nat.lt_irrefl _)
    rw [Moved.eq_with mv]
    have hV : Vals xs.reverse acc'.toList := by
      refine vals_ix ?_ fun i x u hx hu => ?_
      · rw [Array.length_toList, List.length_reverse, hl]
        have := hI.1
        rw [List.size_toArray] at this
        exact this
      · have hP := hI.2 i u (by rw [← Array.getElem?_toList]; exact hu)
        have il : i < xs.length := by
          have := (List.getElem?_eq_some_iff.mp hx).1
          simpa using this
        have hP' : its[its.length - 1 - i]? = some u := by simpa using hP
        rw [List.getElem?_reverse il, hl] at hx
        obtain ⟨u', hu', ru⟩ := rv.get hx
        rw [hu'] at hP'
        cases hP'
        exact ru
    refine ⟨.ref (s1.heap.push (revObj a ((its.toArray.size : Int) - 1))).objs.size, _, I1.laid (o := .lst xs.reverse) (t' := s'.toks) hk (by rw [sz]; omega) ?_, rfl, q _ (I1.hok.fresh (by rw [sz]; omega))⟩
    exact ⟨by rw [List.length_reverse]; exact hz, acc'.toList, c', hV, by simpa using hS⟩
end L2
end

namespace My
theorem ipos {b : Int} (hb : 0 < b) : (0 : Rat) < (b : Rat) := Rat.intCast_pos.mpr hb
theorem ine {b : Int} (hb : 0 < b) : (b : Rat) ≠ 0 := Rat.ne_of_gt (ipos hb)
theorem le_div {a b c : Rat} (hc : 0 < c) : a ≤ b / c ↔ a * c ≤ b := by
  rw [← Rat.not_lt, ← Rat.not_lt, Rat.div_lt_iff hc]
theorem q0le {a b : Int} (hb : 0 < b) : (0 : Rat) ≤ (a : Rat) / b ↔ 0 ≤ a := by
  rw [le_div (ipos hb), Rat.zero_mul, Rat.intCast_nonneg]
theorem qlt0 {a b : Int} (hb : 0 < b) : (a : Rat) / b < 0 ↔ a < 0 := by
  rw [← Rat.not_le, q0le hb, Int.not_le]
theorem qneg {a b : Int} : -((a : Rat) / b) = ((-a : Int) : Rat) / b := by
  rw [Rat.intCast_neg]; grind
theorem qone (a : Int) : (a : Rat) = (a : Rat) / ((1 : Int) : Rat) := by
  rw [Rat.intCast_one]; grind
theorem qscale {a b k : Int} (hk : 0 < k) : ((a * k : Int) : Rat) / ((b * k : Int) : Rat) = (a : Rat) / b := by
  have h1 := ine hk
  rw [Rat.intCast_mul, Rat.intCast_mul]
  grind
theorem q_den {a b : Int} (hb : 0 < b) : ((((a : Rat) / (b : Rat)).den : Nat) : Int) = b / (Int.gcd a b : Int) := by
  rw [← Rat.divInt_eq_div, Rat.den_divInt, if_neg (Int.ne_of_gt hb), Int.gcd_comm]
  have : ((b.natAbs : Nat) : Int) = b := by omega
  rw [Int.natCast_ediv, this]
end My
namespace My
theorem two_eq (k : Int) : Sh.two k = (2 : Rat) ^ k := by
  unfold Sh.two
  split
  · rename_i h
    obtain ⟨n, rfl⟩ := Int.eq_ofNat_of_zero_le h
    rw [Rat.zpow_natCast, Rat.natCast_pow]
    rfl
  · rename_i h
    obtain ⟨n, hn⟩ := Int.eq_ofNat_of_zero_le (show 0 ≤ -k by omega)
    have e : k = -(n : Int) := by omega
    rw [e, Rat.zpow_neg, Rat.zpow_natCast, Int.neg_neg, Int.toNat_natCast, Rat.natCast_pow]
    have : ((2 : Nat) : Rat) = 2 := rfl
    rw [this]
    grind
theorem two_nat (n : Nat) : Sh.two (n : Int) = ((2 ^ n : Int) : Rat) := by
  rw [two_eq, Rat.zpow_natCast, Rat.intCast_pow]; rfl
theorem two_neg_nat (n : Nat) : Sh.two (-(n : Int)) = 1 / ((2 ^ n : Int) : Rat) := by
  rw [two_eq, Rat.zpow_neg, Rat.zpow_natCast, Rat.intCast_pow]
  have : ((2 : Int) : Rat) = 2 := rfl
  rw [this]; grind
end My
namespace My
open Sh (Fmt How)
theorem pow2_pos (n : Nat) : (0 : Int) < 2 ^ n := Int.pow_pos (by decide)
theorem natpow (n : Nat) : (((2 ^ n : Nat) : Rat)) = ((2 ^ n : Int) : Rat) := by
  rw [Rat.natCast_pow, Rat.intCast_pow]; rfl
end My
namespace My
open Sh (Fmt How)
theorem natcast (n : Nat) : (n : Rat) = ((n : Int) : Rat) := by rw [Rat.intCast_natCast]
end My
namespace My
open Sh (Fmt How)
end My
namespace My
open Sh (Fmt How)
end My
namespace My
open Sh (Fmt How)
theorem two_q (k : Int) : Sh.two k = ((2 ^ k.toNat : Int) : Rat) / ((2 ^ (-k).toNat : Int) : Rat) := by
  rcases Int.le_total 0 k with h | h
  · obtain ⟨n, rfl⟩ := Int.eq_ofNat_of_zero_le h
    rw [two_nat]
    have e : (-(n : Int)).toNat = 0 := by omega
    rw [e, Int.toNat_natCast, Int.pow_zero, Rat.intCast_one]; grind
  · obtain ⟨n, hn⟩ := Int.eq_ofNat_of_zero_le (show 0 ≤ -k by omega)
    have e : k = -(n : Int) := by omega
    subst e
    rw [two_neg_nat]
    have e : (-(n : Int)).toNat = 0 := by omega
    rw [e, Int.neg_neg, Int.toNat_natCast, Int.pow_zero, Rat.intCast_one]
def mantF (m : Nat) (M r : Nat) : Nat := if r / 2 ^ m % (2 * M + 2) = 0 then r % 2 ^ m else 2 ^ m + r % 2 ^ m
def expoF (m M r : Nat) : Int := (if r / 2 ^ m % (2 * M + 2) = 0 then 1 else ((r / 2 ^ m % (2 * M + 2) : Nat) : Int)) - (M : Int) - (m : Int)
def valueF (m M B r : Nat) : Rat := if r / 2 ^ (B - 1) % 2 = 1 then -((mantF m M r : Rat) * Sh.two (expoF m M r)) else (mantF m M r : Rat) * Sh.two (expoF m M r)
theorem value32 (r : Nat) : Fmt.f32.value r = valueF 23 127 32 r := by
  unfold Fmt.value valueF mantF expoF
  dsimp only [Fmt.fraction, Fmt.most, Fmt.bits]
  generalize r / 2 ^ 23 % (2 * 127 + 2) = e
  by_cases c : e = 0
  · simp only [c, if_pos]
  · simp only [c, if_false]
theorem value64 (r : Nat) : Fmt.f64.value r = valueF 52 1023 64 r := by
  unfold Fmt.value valueF mantF expoF
  dsimp only [Fmt.fraction, Fmt.most, Fmt.bits]
  generalize r / 2 ^ 52 % (2 * 1023 + 2) = e
  by_cases c : e = 0
  · simp only [c, if_pos]
  · simp only [c, if_false]
def sgnF (B r : Nat) : Int := if r / 2 ^ (B - 1) % 2 = 1 then -1 else 1
theorem valueF_q (m M B r : Nat) : valueF m M B r = ((sgnF B r * (mantF m M r : Int) * 2 ^ (expoF m M r).toNat : Int) : Rat) / ((2 ^ (-(expoF m M r)).toNat : Int) : Rat) := by
  unfold valueF sgnF
  rw [two_q]
  rw [Rat.intCast_mul, Rat.intCast_mul]
  split
  · rw [Rat.intCast_neg, Rat.intCast_one, natcast]; grind
  · rw [Rat.intCast_one, natcast]; grind
def numFix (w : Nat) (s : Bool) (r : Nat) : Int := if s = true ∧ 2 ^ (w - 1) ≤ r then (r : Int) - 2 ^ w else (r : Int)
theorem valueFix {w : Nat} (p : Nat) (s : Bool) {r : Nat} (h : r < 2 ^ w) : (Fmt.fix w p s).value r = ((numFix w s r : Int) : Rat) / ((2 ^ p : Int) : Rat) := by
  unfold Fmt.value numFix
  dsimp only
  rw [Nat.mod_eq_of_lt h, natpow, Int.natCast_pow]
  split
  · rw [Rat.intCast_sub]; rfl
  · rfl
end My
namespace My
open Sh (isDigit numeral numberOf exponentOf MOST)
inductive St where
  | s0 | s1 | int (n : Nat) | pt (n : Nat) | fr (n : Nat) | e0 | e1 | ed (k : Nat) | sl (n : Nat) | dn (n : Nat) (z : Bool)
  deriving DecidableEq
def stp : St → UInt8 → Option St
  | .s0, c => if c = 45 then some .s1 else if isDigit c = true then some (.int 1) else none
  | .s1, c => if isDigit c = true then some (.int 1) else none
  | .int n, c => if isDigit c = true then (if n < 40 then some (.int (n + 1)) else none)
    else if c = 46 then (if n < 40 then some (.pt n) else none)
    else if c = 101 then some .e0
    else if c = 47 then (if n < 40 then some (.sl n) else none)
    else none
  | .pt n, c => if isDigit c = true then some (.fr (n + 1)) else none
  | .fr n, c => if isDigit c = true then (if n < 40 then some (.fr (n + 1)) else none)
    else if c = 101 then some .e0 else none
  | .e0, c => if c = 45 then some .e1 else if isDigit c = true then some (.ed 1) else none
  | .e1, c => if isDigit c = true then some (.ed 1) else none
  | .ed k, c => if isDigit c = true then (if k < 3 then some (.ed (k + 1)) else none) else none
  | .sl n, c => if isDigit c = true then (if c = 48 then (if n + 1 < 40 then some (.dn (n + 1) false) else none) else some (.dn (n + 1) true)) else none
  | .dn n z, c => if isDigit c = true then (if n < 40 then (if z = true ∨ c ≠ 48 then some (.dn (n + 1) true) else if n + 1 < 40 then some (.dn (n + 1) false) else none) else none) else none
def go (s : Option St) (t : List UInt8) : Option St := t.foldl (fun s c => s.bind (stp · c)) s
end My
namespace My
open Sh (digitsOf)
def dgB (n : Nat) : UInt8 := UInt8.ofNat (48 + n)
theorem dg_char {n : Nat} (h : n < 10) : UInt8.ofNat (Nat.digitChar n).toNat = dgB n := by
  unfold dgB
  have : n = 0 ∨ n = 1 ∨ n = 2 ∨ n = 3 ∨ n = 4 ∨ n = 5 ∨ n = 6 ∨ n = 7 ∨ n = 8 ∨ n = 9 := by omega
  rcases this with h | h | h | h | h | h | h | h | h | h <;> subst h <;> decide
theorem digits_lt {n : Nat} (h : n < 10) : digitsOf n = [dgB n] := by
  unfold digitsOf
  rw [Nat.toDigits_of_lt_base h, List.map_cons, List.map_nil, dg_char h]
theorem digits_step {n : Nat} (h : 10 ≤ n) : digitsOf n = digitsOf (n / 10) ++ [dgB (n % 10)] := by
  unfold digitsOf
  rw [Nat.toDigits_of_base_le (by decide) h, List.map_append, List.map_cons, List.map_nil, dg_char (Nat.mod_lt _ (by decide))]
def padB : Nat → Nat → List UInt8
  | 0, _ => []
  | n + 1, x => padB n (x / 10) ++ [dgB (x % 10)]
theorem padB_len : ∀ (n x : Nat), (padB n x).length = n
  | 0, _ => rfl
  | n + 1, x => by unfold padB; rw [List.length_append, padB_len n, List.length_singleton]
theorem padB_zero : ∀ n : Nat, padB n 0 = List.replicate n 48
  | 0 => rfl
  | n + 1 => by
    unfold padB
    rw [Nat.zero_div, padB_zero n, List.replicate_succ']
    rfl
theorem pad_eq : ∀ (n x : Nat), 0 < n → x < 10 ^ n → List.replicate (n - (digitsOf x).length) 48 ++ digitsOf x = padB n x
  | 0, x, h, _ => absurd h (by decide)
  | n + 1, x, _, hx => by
    unfold padB
    rcases Nat.lt_or_ge x 10 with c | c
    · rw [digits_lt c, Nat.div_eq_of_lt c, padB_zero, Nat.mod_eq_of_lt c]
      rfl
    · rw [digits_step c]
      have n0 : 0 < n := by
        rcases Nat.eq_zero_or_pos n with e | e
        · subst e; simp at hx; omega
        · exact e
      have hx2 : x / 10 < 10 ^ n := by rw [Nat.div_lt_iff_lt_mul (by decide)]; rw [Nat.pow_succ] at hx; exact hx
      have ih := pad_eq n (x / 10) n0 hx2
      rw [← ih, List.length_append, List.length_singleton, Nat.add_sub_add_right, List.append_assoc]
theorem padB_head : ∀ (n x : Nat), padB (n + 1) x = dgB (x / 10 ^ n % 10) :: padB n (x % 10 ^ n)
  | 0, x => by
    unfold padB
    rw [Nat.pow_zero, Nat.div_one]
    rfl
  | n + 1, x => by
    have ih := padB_head n (x / 10)
    have e0 : padB (n + 1 + 1) x = padB (n + 1) (x / 10) ++ [dgB (x % 10)] := rfl
    rw [e0, ih, List.cons_append]
    have e1 : x / 10 / 10 ^ n = x / 10 ^ (n + 1) := by rw [Nat.div_div_eq_div_mul, Nat.pow_succ, Nat.mul_comm]
    have e2 : x / 10 % 10 ^ n = x % 10 ^ (n + 1) / 10 := by
      rw [Nat.pow_succ, Nat.mul_comm (10 ^ n) 10, Nat.mod_mul_right_div_self]
    have e3 : x % 10 ^ (n + 1) % 10 = x % 10 := by
      rw [Nat.pow_succ]
      exact Nat.mod_mul_left_mod _ _ _
    rw [e1, e2]
    show _ = _ :: (padB n (x % 10 ^ (n + 1) / 10) ++ [dgB (x % 10 ^ (n + 1) % 10)])
    rw [e3]
theorem den_one {a b : Int} (hb : 0 < b) : (((a : Rat) / (b : Rat)).den == 1) = decide (a % b = 0) := by
  have h := q_den (a := a) hb
  have hg : 0 < (Int.gcd a b : Int) := by
    have := Int.gcd_pos_of_ne_zero_right a (Int.ne_of_gt hb); omega
  have hd : (Int.gcd a b : Int) ∣ b := Int.gcd_dvd_right ..
  have e1 : (Int.gcd a b : Int) * (b / (Int.gcd a b : Int)) = b := Int.mul_ediv_cancel' hd
  by_cases c : a % b = 0
  · rw [decide_eq_true c, beq_iff_eq]
    have hda : b ∣ a := Int.dvd_of_emod_eq_zero c
    have hdg : b ∣ (Int.gcd a b : Int) := Int.dvd_coe_gcd hda (Int.dvd_refl b)
    have g1 : (Int.gcd a b : Int) = b := Int.le_antisymm (Int.le_of_dvd hb hd) (Int.le_of_dvd hg hdg)
    rw [g1, Int.ediv_self (Int.ne_of_gt hb)] at h
    omega
  · rw [decide_eq_false c, beq_eq_false_iff_ne]
    intro e
    rw [e] at h
    apply c
    have h2 : b / (Int.gcd a b : Int) = 1 := by rw [← h]; rfl
    rw [h2, Int.mul_one] at e1
    have : (Int.gcd a b : Int) ∣ a := Int.gcd_dvd_left ..
    rw [e1] at this
    exact Int.emod_eq_zero_of_dvd this
theorem five_odd (n : Nat) : (5 : Int) ^ n % 2 = 1 := by
  induction n with
  | zero => rfl
  | succ n ih => rw [Int.pow_succ, Int.mul_emod, ih]; rfl
theorem ten_split (n : Nat) : (10 : Int) ^ n = 5 ^ n * 2 ^ n := by
  rw [← Int.mul_pow]; rfl
theorem two_dvd {a : Int} {k n : Nat} (ha : k = 0 ∨ a % 2 = 1) : (a * 10 ^ n) % 2 ^ k = 0 ↔ k ≤ n := by
  constructor
  · intro h
    rcases ha with ha | ha
    · omega
    · apply Nat.not_lt.mp
      intro g
      obtain ⟨j, rfl⟩ : ∃ j, k = n + 1 + j := ⟨k - n - 1, by omega⟩
      have hd : (2 : Int) ^ (n + 1 + j) ∣ a * 10 ^ n := Int.dvd_of_emod_eq_zero h
      obtain ⟨x, hx⟩ := hd
      have e : (2 : Int) ^ n * (a * 5 ^ n) = 2 ^ n * (2 * (2 ^ j * x)) := by
        rw [ten_split] at hx
        have e1 : (2 : Int) ^ (n + 1 + j) = 2 ^ n * 2 * 2 ^ j := by rw [Int.pow_add, Int.pow_succ]
        rw [e1] at hx
        grind
      have e2 := Int.eq_of_mul_eq_mul_left (Int.ne_of_gt (pow2_pos n)) e
      have o : (a * 5 ^ n) % 2 = 1 := by rw [Int.mul_emod, ha, five_odd]; rfl
      omega
  · intro h
    obtain ⟨j, rfl⟩ : ∃ j, n = k + j := ⟨n - k, by omega⟩
    apply Int.emod_eq_zero_of_dvd
    refine ⟨a * 5 ^ (k + j) * 2 ^ j, ?_⟩
    rw [ten_split, Int.pow_add 2 k j]
    grind
theorem places_eq {a : Int} {k : Nat} (ha : k = 0 ∨ a % 2 = 1) (hk : k < 1100) : Sh.places ((a : Rat) / ((2 ^ k : Int) : Rat)) = k := by
  unfold Sh.places
  have key : ∀ n : Nat, (((a : Rat) / ((2 ^ k : Int) : Rat) * ((10 ^ n : Nat) : Rat)).den == 1) = decide (k ≤ n) := by
    intro n
    have e : (a : Rat) / ((2 ^ k : Int) : Rat) * ((10 ^ n : Nat) : Rat) = ((a * 10 ^ n : Int) : Rat) / ((2 ^ k : Int) : Rat) := by
      have : ((10 ^ n : Nat) : Rat) = ((10 ^ n : Int) : Rat) := by
        rw [Rat.natCast_pow, Rat.intCast_pow]; rfl
      rw [this, Rat.intCast_mul]; grind
    rw [e, den_one (pow2_pos k)]
    exact decide_eq_decide.mpr (two_dvd ha)
  simp only [key]
  have : (List.range 1100).find? (fun n => decide (k ≤ n)) = some k := by
    rw [List.find?_range_eq_some]
    refine ⟨by simp, List.mem_range.mpr hk, fun j hj => ?_⟩
    rw [decide_eq_false (by omega)]; rfl
  rw [this]; rfl
theorem inFull_eq {a : Int} {k : Nat} (ha : k = 0 ∨ a % 2 = 1) (hk : k < 1100) :
    Sh.inFull ((a : Rat) / ((2 ^ k : Int) : Rat)) = (if a < 0 then [45] else []) ++ (digitsOf (a.natAbs / 2 ^ k) ++ if k = 0 then [] else 46 :: padB k (a.natAbs % 2 ^ k * 5 ^ k)) := by
  unfold Sh.inFull
  rw [places_eq ha hk]
  dsimp only
  have hp := pow2_pos k
  have ez : (Sh.size ((a : Rat) / ((2 ^ k : Int) : Rat)) * ((10 ^ k : Nat) : Rat)).floor.toNat = a.natAbs * 5 ^ k := by
    have e10 : ((10 ^ k : Nat) : Rat) = ((5 ^ k * 2 ^ k : Int) : Rat) := by
      rw [← ten_split, Rat.natCast_pow, Rat.intCast_pow]; rfl
    have es : Sh.size ((a : Rat) / ((2 ^ k : Int) : Rat)) = ((a.natAbs : Int) : Rat) / ((2 ^ k : Int) : Rat) := by
      unfold Sh.size
      split
      · rename_i h
        rw [qlt0 hp] at h
        rw [qneg]
        congr 2
        omega
      · rename_i h
        rw [qlt0 hp] at h
        congr 2
        omega
    rw [es, e10]
    have : ((a.natAbs : Int) : Rat) / ((2 ^ k : Int) : Rat) * ((5 ^ k * 2 ^ k : Int) : Rat) = (((a.natAbs : Int) * 5 ^ k : Int) : Rat) := by
      have h1 := ine hp
      rw [Rat.intCast_mul, Rat.intCast_mul]; grind
    rw [this, Rat.floor_intCast]
    have : ((a.natAbs : Int) * 5 ^ k) = ((a.natAbs * 5 ^ k : Nat) : Int) := by
      rw [Int.natCast_mul, Int.natCast_pow]; rfl
    rw [this, Int.toNat_natCast]
  rw [ez]
  have t : (10 : Nat) ^ k = 2 ^ k * 5 ^ k := by rw [← Nat.mul_pow]
  have f0 : 0 < 5 ^ k := Nat.pow_pos (by decide)
  have d1 : a.natAbs * 5 ^ k / 10 ^ k = a.natAbs / 2 ^ k := by rw [t, Nat.mul_div_mul_right _ _ f0]
  have d2 : a.natAbs * 5 ^ k % 10 ^ k = a.natAbs % 2 ^ k * 5 ^ k := by rw [t, Nat.mul_mod_mul_right]
  rw [d1, d2]
  have sg : ((a : Rat) / ((2 ^ k : Int) : Rat) < 0) = (a < 0) := propext (qlt0 hp)
  simp only [sg]
  congr 2
  by_cases k0 : k = 0
  · rw [if_pos k0, if_pos k0]
  · rw [if_neg k0, if_neg k0, pad_eq k _ (by omega)]
    rw [t]
    exact Nat.mul_lt_mul_of_pos_right (Nat.mod_lt _ (Nat.two_pow_pos k)) f0
end My
namespace My
open Sh (Fmt How)
end My

namespace Py
open L2
open Sh (Fmt How)
def m_kind_of (c : Int) : Int :=
  (c / (65536))
def m_width_of (c : Int) : Int :=
  ((c / (256)) % (256))
def m_point_of (c : Int) : Int :=
  (c % (256))
def m_is_format (c : Int) : Bool :=
  (if (c ∈ ([(2048), (204800), (212992)] : List Int)) then true else (if (¬ ((m_kind_of c) ∈ ([(1), (2)] : List Int))) then false else (if ((m_width_of c) ∈ ([(8), (16), (32), (64)] : List Int)) then (decide ((m_point_of c) ≤ (m_width_of c))) else false)))
def m_sign_bit (c : Int) : Int :=
  ((1) * 2 ^ (((m_width_of c) - (1)) : Int).toNat)
def m_infinity_raw (c : Int) : Int :=
  ((m_sign_bit c) - ((1) * 2 ^ ((dictI [(32, 23), (64, 52)] (m_width_of c)) : Int).toNat))
def m_fits_width (c : Int) (bits : Int) : Bool :=
  (if ((0) ≤ bits) then (decide (bits < ((1) * 2 ^ ((m_width_of c) : Int).toNat))) else false)
def m_is_good (c : Int) (r : Int) : Bool :=
  (if ((m_fits_width c r) = true) then (if ((m_kind_of c) = (0)) then (decide (r ≤ (1))) else (if ((m_kind_of c) = (3)) then (if (¬ r = (m_sign_bit c)) then (decide ((r % (m_sign_bit c)) < (m_infinity_raw c))) else false) else true)) else false)
def m_is_raw (c : Int) (r : Int) : Bool :=
  (if ((m_is_format c) = true) then (m_is_good c r) else false)
def m_steps_of (c : Int) (r : Int) : Int :=
  (if ((m_kind_of c) = (1)) then (if ((m_sign_bit c) ≤ r) then (r - ((1) * 2 ^ ((m_width_of c) : Int).toNat)) else r) else r)
def m_float_worth (c : Int) (r : Int) : Int × Int :=
  (if ((0) < ((r % (m_sign_bit c)) / 2 ^ ((dictI [(32, 23), (64, 52)] (m_width_of c)) : Int).toNat)) then (if ((r % (m_sign_bit c)) < r) then (if ((0) ≤ ((-(dictI [(32, 149), (64, 1074)] (m_width_of c))) + (((r % (m_sign_bit c)) / 2 ^ ((dictI [(32, 23), (64, 52)] (m_width_of c)) : Int).toNat) - (1)))) then (((-(((r % (m_sign_bit c)) % ((1) * 2 ^ ((dictI [(32, 23), (64, 52)] (m_width_of c)) : Int).toNat)) + ((1) * 2 ^ ((dictI [(32, 23), (64, 52)] (m_width_of c)) : Int).toNat))) * 2 ^ (((-(dictI [(32, 149), (64, 1074)] (m_width_of c))) + (((r % (m_sign_bit c)) / 2 ^ ((dictI [(32, 23), (64, 52)] (m_width_of c)) : Int).toNat) - (1))) : Int).toNat), (1)) else ((-(((r % (m_sign_bit c)) % ((1) * 2 ^ ((dictI [(32, 23), (64, 52)] (m_width_of c)) : Int).toNat)) + ((1) * 2 ^ ((dictI [(32, 23), (64, 52)] (m_width_of c)) : Int).toNat))), ((1) * 2 ^ ((-((-(dictI [(32, 149), (64, 1074)] (m_width_of c))) + (((r % (m_sign_bit c)) / 2 ^ ((dictI [(32, 23), (64, 52)] (m_width_of c)) : Int).toNat) - (1)))) : Int).toNat))) else (if ((0) ≤ ((-(dictI [(32, 149), (64, 1074)] (m_width_of c))) + (((r % (m_sign_bit c)) / 2 ^ ((dictI [(32, 23), (64, 52)] (m_width_of c)) : Int).toNat) - (1)))) then (((((r % (m_sign_bit c)) % ((1) * 2 ^ ((dictI [(32, 23), (64, 52)] (m_width_of c)) : Int).toNat)) + ((1) * 2 ^ ((dictI [(32, 23), (64, 52)] (m_width_of c)) : Int).toNat)) * 2 ^ (((-(dictI [(32, 149), (64, 1074)] (m_width_of c))) + (((r % (m_sign_bit c)) / 2 ^ ((dictI [(32, 23), (64, 52)] (m_width_of c)) : Int).toNat) - (1))) : Int).toNat), (1)) else ((((r % (m_sign_bit c)) % ((1) * 2 ^ ((dictI [(32, 23), (64, 52)] (m_width_of c)) : Int).toNat)) + ((1) * 2 ^ ((dictI [(32, 23), (64, 52)] (m_width_of c)) : Int).toNat)), ((1) * 2 ^ ((-((-(dictI [(32, 149), (64, 1074)] (m_width_of c))) + (((r % (m_sign_bit c)) / 2 ^ ((dictI [(32, 23), (64, 52)] (m_width_of c)) : Int).toNat) - (1)))) : Int).toNat)))) else (if ((r % (m_sign_bit c)) < r) then (if ((0) ≤ (-(dictI [(32, 149), (64, 1074)] (m_width_of c)))) then (((-((r % (m_sign_bit c)) % ((1) * 2 ^ ((dictI [(32, 23), (64, 52)] (m_width_of c)) : Int).toNat))) * 2 ^ ((-(dictI [(32, 149), (64, 1074)] (m_width_of c))) : Int).toNat), (1)) else ((-((r % (m_sign_bit c)) % ((1) * 2 ^ ((dictI [(32, 23), (64, 52)] (m_width_of c)) : Int).toNat))), ((1) * 2 ^ ((-(-(dictI [(32, 149), (64, 1074)] (m_width_of c)))) : Int).toNat))) else (if ((0) ≤ (-(dictI [(32, 149), (64, 1074)] (m_width_of c)))) then ((((r % (m_sign_bit c)) % ((1) * 2 ^ ((dictI [(32, 23), (64, 52)] (m_width_of c)) : Int).toNat)) * 2 ^ ((-(dictI [(32, 149), (64, 1074)] (m_width_of c))) : Int).toNat), (1)) else (((r % (m_sign_bit c)) % ((1) * 2 ^ ((dictI [(32, 23), (64, 52)] (m_width_of c)) : Int).toNat)), ((1) * 2 ^ ((-(-(dictI [(32, 149), (64, 1074)] (m_width_of c)))) : Int).toNat)))))
def m_worth_of (c : Int) (r : Int) : Int × Int :=
  (if ((m_kind_of c) = (3)) then (m_float_worth c r) else ((m_steps_of c r), ((1) * 2 ^ ((m_point_of c) : Int).toNat)))
open Sh (Fmt)
theorem width_lt (c : Int) : m_width_of c < 256 := by unfold m_width_of; omega
theorem width_nn (c : Int) : 0 ≤ m_width_of c := by unfold m_width_of; omega
theorem memw {x : Int} : x ∈ ([(8), (16), (32), (64)] : List Int) ↔ x = 8 ∨ x = 16 ∨ x = 32 ∨ x = 64 := by simp
theorem mem3 {x : Int} : x ∈ ([(2048), (204800), (212992)] : List Int) ↔ x = 2048 ∨ x = 204800 ∨ x = 212992 := by simp
theorem mem2 {x : Int} : x ∈ ([(1), (2)] : List Int) ↔ x = 1 ∨ x = 2 := by simp
theorem isf_iff (c : Int) : m_is_format c = true ↔ (c = 2048 ∨ c = 204800 ∨ c = 212992) ∨ ((m_kind_of c = 1 ∨ m_kind_of c = 2) ∧ (m_width_of c = 8 ∨ m_width_of c = 16 ∨ m_width_of c = 32 ∨ m_width_of c = 64) ∧ m_point_of c ≤ m_width_of c) := by
  unfold m_is_format
  rw [← mem3, ← mem2, ← memw]
  by_cases h1 : c ∈ ([(2048), (204800), (212992)] : List Int)
  · rw [if_pos h1]; simp [h1]
  · rw [if_neg h1]
    by_cases h2 : m_kind_of c ∈ ([(1), (2)] : List Int)
    · rw [if_neg (fun z => z h2)]
      by_cases h3 : m_width_of c ∈ ([(8), (16), (32), (64)] : List Int)
      · rw [if_pos h3, decide_eq_true_eq]
        constructor
        · intro h; exact .inr ⟨h2, h3, h⟩
        · intro h; exact (h.resolve_left h1).2.2
      · rw [if_neg h3]
        constructor
        · intro h; cases h
        · intro h; exact absurd (h.resolve_left h1).2.1 h3
    · rw [if_pos h2]
      constructor
      · intro h; cases h
      · intro h; exact absurd (h.resolve_left h1).1 h2
theorem isf_pos {c : Int} (h : m_is_format c = true) : 1 ≤ m_width_of c := by
  rcases (isf_iff c).mp h with (h | h | h) | ⟨_, h, _⟩
  · subst h; decide
  · subst h; decide
  · subst h; decide
  · omega
theorem isf_float {c : Int} (h : m_is_format c = true) (k : m_kind_of c = 3) : m_width_of c = 32 ∨ m_width_of c = 64 := by
  rcases (isf_iff c).mp h with (h | h | h) | ⟨g, _, _⟩
  · subst h; exact absurd k (by decide)
  · subst h; exact .inl (by decide)
  · subst h; exact .inr (by decide)
  · omega
inductive IsFmt : Int → Fmt → Prop
  | truth : IsFmt 2048 .truth
  | f32 : IsFmt 204800 .f32
  | f64 : IsFmt 212992 .f64
  | fix {c : Int} {w p : Nat} {s : Bool} (hw : w = 8 ∨ w = 16 ∨ w = 32 ∨ w = 64) (hp : p ≤ w) (hk : c = (if s = true then 65536 else 131072) + w * 256 + p) : IsFmt c (.fix w p s)
theorem told_iff (w p : Nat) (s : Bool) : (Fmt.fix w p s).told = true ↔ (w = 8 ∨ w = 16 ∨ w = 32 ∨ w = 64) ∧ p ≤ w := by
  unfold Fmt.told
  simp [or_assoc]
theorem fmt_of_is {c : Int} {f : Fmt} (h : IsFmt c f) : ShNumSeed.fmt c = some f := by
  cases h with
  | truth => decide
  | f32 => decide
  | f64 => decide
  | @fix _ w p s hw hp hk =>
    have t := (told_iff w p s).mpr ⟨hw, hp⟩
    unfold ShNumSeed.fmt Sh.formatOf
    have e : c.toNat = (if s = true then 65536 else 131072) + w * 256 + p := by
      cases s
      · rw [if_neg (by decide)] at hk ⊢; omega
      · rw [if_pos rfl] at hk ⊢; omega
    have c0 : ¬ c < 0 := by
      cases s
      · rw [if_neg (by decide)] at hk; omega
      · rw [if_pos rfl] at hk; omega
    rw [if_neg c0]
    dsimp only
    cases s
    · rw [if_neg (by decide)] at e
      have k1 : c.toNat / 65536 = 2 := by omega
      have k2 : c.toNat / 256 % 256 = w := by omega
      have k3 : c.toNat % 256 = p := by omega
      rw [k1, k2, k3, if_neg (by decide), if_neg (by decide), if_pos rfl, if_pos t]
    · rw [if_pos rfl] at e
      have k1 : c.toNat / 65536 = 1 := by omega
      have k2 : c.toNat / 256 % 256 = w := by omega
      have k3 : c.toNat % 256 = p := by omega
      rw [k1, k2, k3, if_neg (by decide), if_pos rfl, if_pos t]
theorem is_of_isf {c : Int} (h : m_is_format c = true) : ∃ f, IsFmt c f := by
  rcases (isf_iff c).mp h with (h | h | h) | ⟨h1, h2, h3⟩
  · subst h; exact ⟨_, .truth⟩
  · subst h; exact ⟨_, .f32⟩
  · subst h; exact ⟨_, .f64⟩
  · unfold m_kind_of m_width_of m_point_of at *
    rcases h1 with k | k
    · refine ⟨_, IsFmt.fix (w := (c / 256 % 256).toNat) (p := (c % 256).toNat) (s := true) (by omega) (by omega) ?_⟩
      rw [if_pos rfl]; omega
    · refine ⟨_, IsFmt.fix (w := (c / 256 % 256).toNat) (p := (c % 256).toNat) (s := false) (by omega) (by omega) ?_⟩
      rw [if_neg (by decide)]; omega
theorem isf_of_is {c : Int} {f : Fmt} (h : IsFmt c f) : m_is_format c = true := by
  rw [isf_iff]
  cases h with
  | truth => exact .inl (.inl rfl)
  | f32 => exact .inl (.inr (.inl rfl))
  | f64 => exact .inl (.inr (.inr rfl))
  | @fix _ w p s hw hp hk =>
    right
    unfold m_kind_of m_width_of m_point_of
    cases s
    · rw [if_neg (by decide)] at hk; omega
    · rw [if_pos rfl] at hk; omega
theorem fmt_some {c : Int} {f : Fmt} (h : ShNumSeed.fmt c = some f) : IsFmt c f := by
  unfold ShNumSeed.fmt at h
  split at h
  · cases h
  · rename_i c0
    unfold Sh.formatOf at h
    dsimp only at h
    split at h
    · split at h
      · rename_i k g
        cases h
        have : c = 2048 := by omega
        subst this; exact .truth
      · cases h
    · split at h
      · split at h
        · rename_i g t
          cases h
          obtain ⟨a, b⟩ := (told_iff _ _ _).mp t
          refine .fix a b ?_
          rw [if_pos rfl]; omega
        · cases h
      · split at h
        · split at h
          · rename_i g t
            cases h
            obtain ⟨a, b⟩ := (told_iff _ _ _).mp t
            refine .fix a b ?_
            rw [if_neg (by decide)]; omega
          · cases h
        · split at h
          · split at h
            · cases h
              have : c = 204800 := by omega
              subst this; exact .f32
            · split at h
              · cases h
                have : c = 212992 := by omega
                subst this; exact .f64
              · cases h
          · cases h
theorem fmt_none {c : Int} (h : ¬ m_is_format c = true) : ShNumSeed.fmt c = none := by
  cases e : ShNumSeed.fmt c with
  | none => rfl
  | some f => exact absurd (isf_of_is (fmt_some e)) h

theorem fix_parts {w p : Nat} {s : Bool} {c : Int} (hw : w = 8 ∨ w = 16 ∨ w = 32 ∨ w = 64) (hp : p ≤ w) (hk : c = (if s = true then 65536 else 131072) + w * 256 + p) :
    m_width_of c = (w : Int) ∧ m_point_of c = (p : Int) ∧ m_kind_of c = (if s = true then 1 else 2) := by
  unfold m_width_of m_point_of m_kind_of
  cases s
  · rw [if_neg (by decide)] at hk; rw [if_neg (by decide)]; omega
  · rw [if_pos rfl] at hk; rw [if_pos rfl]; omega
theorem fits_iff (c b : Int) : m_fits_width c b = true ↔ 0 ≤ b ∧ b < 1 * 2 ^ (m_width_of c).toNat := by
  unfold m_fits_width
  by_cases h0 : 0 ≤ b
  · rw [if_pos h0, decide_eq_true_eq]
    exact ⟨fun z => ⟨h0, z⟩, fun z => z.2⟩
  · rw [if_neg h0]
    constructor
    · intro z; cases z
    · intro z; exact absurd z.1 h0
theorem good_is {c r : Int} {f : Fmt} (h : IsFmt c f) : m_is_good c r = true ↔ 0 ≤ r ∧ f.good r.toNat = true := by
  cases h with
  | truth =>
    have fi := fits_iff 2048 r
    have k : m_kind_of 2048 = 0 := by decide
    have e1 : ((1 : Int) * 2 ^ (m_width_of 2048).toNat) = 256 := by decide
    rw [e1] at fi
    unfold m_is_good
    rw [k, if_pos (show (0 : Int) = 0 from rfl)]
    show _ ↔ 0 ≤ r ∧ decide (r.toNat ≤ 1) = true
    rw [decide_eq_true_eq]
    by_cases h1 : m_fits_width 2048 r = true
    · rw [if_pos h1, decide_eq_true_eq]
      have := fi.mp h1
      omega
    · rw [if_neg h1]
      constructor
      · intro z; cases z
      · intro z; exact absurd (fi.mpr (by omega)) h1
  | f32 =>
    have fi := fits_iff 204800 r
    have k : m_kind_of 204800 = 3 := by decide
    have e1 : ((1 : Int) * 2 ^ (m_width_of 204800).toNat) = 4294967296 := by decide
    have e2 : m_sign_bit 204800 = 2147483648 := by decide
    have e3 : m_infinity_raw 204800 = 2139095040 := by decide
    rw [e1] at fi
    unfold m_is_good
    rw [k, if_neg (show ¬ (3 : Int) = 0 by decide), if_pos (show (3 : Int) = 3 from rfl), e2, e3]
    have g : Fmt.good .f32 r.toNat = (decide (r.toNat < 2 ^ 32) && r.toNat / 2 ^ 23 % (2 * 127 + 2) != 2 * 127 + 1 && r.toNat != 2 ^ (32 - 1)) := rfl
    rw [g, Bool.and_eq_true, Bool.and_eq_true, decide_eq_true_eq, bne_iff_ne, bne_iff_ne]
    by_cases h1 : m_fits_width 204800 r = true
    · rw [if_pos h1]
      have := fi.mp h1
      by_cases h2 : r = 2147483648
      · rw [if_neg (fun z => z h2)]
        constructor
        · intro z; cases z
        · intro z; omega
      · rw [if_pos h2, decide_eq_true_eq]; omega
    · rw [if_neg h1]
      constructor
      · intro z; cases z
      · intro z; exact absurd (fi.mpr (by omega)) h1
  | f64 =>
    have fi := fits_iff 212992 r
    have k : m_kind_of 212992 = 3 := by decide
    have e1 : ((1 : Int) * 2 ^ (m_width_of 212992).toNat) = 18446744073709551616 := by decide
    have e2 : m_sign_bit 212992 = 9223372036854775808 := by decide
    have e3 : m_infinity_raw 212992 = 9218868437227405312 := by decide
    rw [e1] at fi
    unfold m_is_good
    rw [k, if_neg (show ¬ (3 : Int) = 0 by decide), if_pos (show (3 : Int) = 3 from rfl), e2, e3]
    have g : Fmt.good .f64 r.toNat = (decide (r.toNat < 2 ^ 64) && r.toNat / 2 ^ 52 % (2 * 1023 + 2) != 2 * 1023 + 1 && r.toNat != 2 ^ (64 - 1)) := rfl
    rw [g, Bool.and_eq_true, Bool.and_eq_true, decide_eq_true_eq, bne_iff_ne, bne_iff_ne]
    by_cases h1 : m_fits_width 212992 r = true
    · rw [if_pos h1]
      have := fi.mp h1
      by_cases h2 : r = 9223372036854775808
      · rw [if_neg (fun z => z h2)]
        constructor
        · intro z; cases z
        · intro z; omega
      · rw [if_pos h2, decide_eq_true_eq]; omega
    · rw [if_neg h1]
      constructor
      · intro z; cases z
      · intro z; exact absurd (fi.mpr (by omega)) h1
  | @fix _ w p s hw hp hk =>
    obtain ⟨ew, ep, ek⟩ := fix_parts hw hp hk
    have fi := fits_iff c r
    unfold m_is_good
    rw [ew, Int.one_mul, Int.toNat_natCast] at fi
    have e : ((2 : Int) ^ w) = ((2 ^ w : Nat) : Int) := by rw [Int.natCast_pow]; rfl
    rw [e] at fi
    have k0 : ¬ (if s = true then (1 : Int) else 2) = 0 := by cases s <;> decide
    have k3 : ¬ (if s = true then (1 : Int) else 2) = 3 := by cases s <;> decide
    rw [ek, if_neg k0, if_neg k3]
    show _ ↔ 0 ≤ r ∧ decide (r.toNat < 2 ^ w) = true
    rw [decide_eq_true_eq]
    by_cases h1 : m_fits_width c r = true
    · rw [if_pos h1]
      have := fi.mp h1
      constructor
      · intro _; omega
      · intro _; rfl
    · rw [if_neg h1]
      constructor
      · intro z; cases z
      · intro z; exact absurd (fi.mpr (by omega)) h1
theorem raw_some {c r : Int} (h : m_is_raw c r = true) : ∃ f, IsFmt c f ∧ 0 ≤ r ∧ f.good r.toNat = true ∧ ShNumSeed.worthOf c r = some (f.value r.toNat) := by
  unfold m_is_raw at h
  split at h
  · rename_i hf
    obtain ⟨f, i⟩ := is_of_isf hf
    obtain ⟨h0, hg⟩ := (good_is i).mp h
    refine ⟨f, i, h0, hg, ?_⟩
    unfold ShNumSeed.worthOf
    rw [fmt_of_is i, Option.bind_some, if_pos (by rw [Bool.and_eq_true, decide_eq_true_eq]; exact ⟨h0, hg⟩)]
  · cases h
theorem raw_none {c r : Int} (h : ¬ m_is_raw c r = true) : ShNumSeed.worthOf c r = none := by
  unfold ShNumSeed.worthOf
  by_cases hf : m_is_format c = true
  · obtain ⟨f, i⟩ := is_of_isf hf
    rw [fmt_of_is i, Option.bind_some, if_neg]
    intro z
    rw [Bool.and_eq_true, decide_eq_true_eq] at z
    refine h ?_
    unfold m_is_raw
    rw [if_pos hf]
    exact (good_is i).mpr z
  · rw [fmt_none hf]; rfl
theorem fw_pos {X Y P E : Int} (hX : X = Y) (hE : P = E) (h : 0 ≤ P) : ((X * 2 ^ P.toNat, 1) : Int × Int) = (Y * 2 ^ E.toNat, 2 ^ (-E).toNat) := by
  subst hX hE
  rw [show (-P).toNat = 0 by omega]
  rfl
theorem fw_neg {X Y P E : Int} (hX : X = Y) (hE : P = E) (h : ¬ 0 ≤ P) : ((X, 1 * 2 ^ (-P).toNat) : Int × Int) = (Y * 2 ^ E.toNat, 2 ^ (-E).toNat) := by
  subst hX hE
  rw [show P.toNat = 0 by omega, Int.one_mul, Int.pow_zero, Int.mul_one]
theorem absI_natAbs (i : Int) : absI i = (i.natAbs : Int) := by
  unfold absI
  split <;> omega
theorem fw_f32 {r : Nat} (h : r < 2 ^ 32) : m_float_worth 204800 (r : Int) = (My.sgnF 32 r * (My.mantF 23 127 r : Int) * 2 ^ (My.expoF 23 127 r).toNat, 2 ^ (-(My.expoF 23 127 r)).toNat) := by
  have d1 : dictI [(32, 23), (64, 52)] (m_width_of 204800) = 23 := by decide
  have d2 : dictI [(32, 149), (64, 1074)] (m_width_of 204800) = 149 := by decide
  have e2 : m_sign_bit 204800 = 2147483648 := by decide
  have p1 : (2 : Int) ^ (23 : Int).toNat = 8388608 := by decide
  unfold m_float_worth
  rw [d1, d2, e2, p1]
  unfold My.sgnF My.mantF My.expoF
  by_cases c1 : r / 2 ^ 23 % (2 * 127 + 2) = 0
  · rw [if_neg (show ¬ (0 : Int) < (r : Int) % 2147483648 / 8388608 by omega), if_pos c1, if_pos c1]
    by_cases c2 : (r : Int) % 2147483648 < (r : Int)
    · rw [if_pos c2, if_pos (show r / 2 ^ (32 - 1) % 2 = 1 by omega), if_neg (show ¬ (0 : Int) ≤ -149 by decide)]
      exact fw_neg (by omega) (by omega) (by decide)
    · rw [if_neg c2, if_neg (show ¬ r / 2 ^ (32 - 1) % 2 = 1 by omega), if_neg (show ¬ (0 : Int) ≤ -149 by decide)]
      exact fw_neg (by omega) (by omega) (by decide)
  · rw [if_pos (show (0 : Int) < (r : Int) % 2147483648 / 8388608 by omega), if_neg c1, if_neg c1]
    by_cases c2 : (r : Int) % 2147483648 < (r : Int)
    · rw [if_pos c2, if_pos (show r / 2 ^ (32 - 1) % 2 = 1 by omega)]
      by_cases c3 : (0 : Int) ≤ (-149 + ((r : Int) % 2147483648 / 8388608 - 1))
      · rw [if_pos c3]
        exact fw_pos (by omega) (by omega) c3
      · rw [if_neg c3]
        exact fw_neg (by omega) (by omega) c3
    · rw [if_neg c2, if_neg (show ¬ r / 2 ^ (32 - 1) % 2 = 1 by omega)]
      by_cases c3 : (0 : Int) ≤ (-149 + ((r : Int) % 2147483648 / 8388608 - 1))
      · rw [if_pos c3]
        exact fw_pos (by omega) (by omega) c3
      · rw [if_neg c3]
        exact fw_neg (by omega) (by omega) c3
theorem fb_f32 {r : Nat} (g : Fmt.good .f32 r = true) : r < 2 ^ 32 ∧ Sz 1025 (My.sgnF 32 r * (My.mantF 23 127 r : Int) * 2 ^ (My.expoF 23 127 r).toNat) ∧ (-(My.expoF 23 127 r)).toNat ≤ 1074 := by
  have g' : (decide (r < 2 ^ 32) && r / 2 ^ 23 % (2 * 127 + 2) != 2 * 127 + 1 && r != 2 ^ (32 - 1)) = true := g
  rw [Bool.and_eq_true, Bool.and_eq_true, decide_eq_true_eq, bne_iff_ne, bne_iff_ne] at g'
  obtain ⟨⟨g1, g2⟩, g3⟩ := g'
  have e1 : (My.expoF 23 127 r).toNat ≤ 104 ∧ (-(My.expoF 23 127 r)).toNat ≤ 1074 := by
    unfold My.expoF
    split <;> omega
  have m1 : My.mantF 23 127 r < 2 ^ (23 + 1) := by
    unfold My.mantF
    split <;> omega
  have s1 : (My.sgnF 32 r).natAbs = 1 := by unfold My.sgnF; split <;> rfl
  refine ⟨g1, ?_, e1.2⟩
  refine Sz.mono (Sz.shl (m := 23 + 1) ?_ e1.1) (by decide)
  unfold Sz
  rw [Int.natAbs_mul, s1, Nat.one_mul]
  exact m1

theorem fw_f64 {r : Nat} (h : r < 2 ^ 64) : m_float_worth 212992 (r : Int) = (My.sgnF 64 r * (My.mantF 52 1023 r : Int) * 2 ^ (My.expoF 52 1023 r).toNat, 2 ^ (-(My.expoF 52 1023 r)).toNat) := by
  have d1 : dictI [(32, 23), (64, 52)] (m_width_of 212992) = 52 := by decide
  have d2 : dictI [(32, 149), (64, 1074)] (m_width_of 212992) = 1074 := by decide
  have e2 : m_sign_bit 212992 = 9223372036854775808 := by decide
  have p1 : (2 : Int) ^ (52 : Int).toNat = 4503599627370496 := by decide
  unfold m_float_worth
  rw [d1, d2, e2, p1]
  unfold My.sgnF My.mantF My.expoF
  by_cases c1 : r / 2 ^ 52 % (2 * 1023 + 2) = 0
  · rw [if_neg (show ¬ (0 : Int) < (r : Int) % 9223372036854775808 / 4503599627370496 by omega), if_pos c1, if_pos c1]
    by_cases c2 : (r : Int) % 9223372036854775808 < (r : Int)
    · rw [if_pos c2, if_pos (show r / 2 ^ (64 - 1) % 2 = 1 by omega), if_neg (show ¬ (0 : Int) ≤ -1074 by decide)]
      exact fw_neg (by omega) (by omega) (by decide)
    · rw [if_neg c2, if_neg (show ¬ r / 2 ^ (64 - 1) % 2 = 1 by omega), if_neg (show ¬ (0 : Int) ≤ -1074 by decide)]
      exact fw_neg (by omega) (by omega) (by decide)
  · rw [if_pos (show (0 : Int) < (r : Int) % 9223372036854775808 / 4503599627370496 by omega), if_neg c1, if_neg c1]
    by_cases c2 : (r : Int) % 9223372036854775808 < (r : Int)
    · rw [if_pos c2, if_pos (show r / 2 ^ (64 - 1) % 2 = 1 by omega)]
      by_cases c3 : (0 : Int) ≤ (-1074 + ((r : Int) % 9223372036854775808 / 4503599627370496 - 1))
      · rw [if_pos c3]
        exact fw_pos (by omega) (by omega) c3
      · rw [if_neg c3]
        exact fw_neg (by omega) (by omega) c3
    · rw [if_neg c2, if_neg (show ¬ r / 2 ^ (64 - 1) % 2 = 1 by omega)]
      by_cases c3 : (0 : Int) ≤ (-1074 + ((r : Int) % 9223372036854775808 / 4503599627370496 - 1))
      · rw [if_pos c3]
        exact fw_pos (by omega) (by omega) c3
      · rw [if_neg c3]
        exact fw_neg (by omega) (by omega) c3
theorem fb_f64 {r : Nat} (g : Fmt.good .f64 r = true) : r < 2 ^ 64 ∧ Sz 1025 (My.sgnF 64 r * (My.mantF 52 1023 r : Int) * 2 ^ (My.expoF 52 1023 r).toNat) ∧ (-(My.expoF 52 1023 r)).toNat ≤ 1074 := by
  have g' : (decide (r < 2 ^ 64) && r / 2 ^ 52 % (2 * 1023 + 2) != 2 * 1023 + 1 && r != 2 ^ (64 - 1)) = true := g
  rw [Bool.and_eq_true, Bool.and_eq_true, decide_eq_true_eq, bne_iff_ne, bne_iff_ne] at g'
  obtain ⟨⟨g1, g2⟩, g3⟩ := g'
  have e1 : (My.expoF 52 1023 r).toNat ≤ 971 ∧ (-(My.expoF 52 1023 r)).toNat ≤ 1074 := by
    unfold My.expoF
    split <;> omega
  have m1 : My.mantF 52 1023 r < 2 ^ (52 + 1) := by
    unfold My.mantF
    split <;> omega
  have s1 : (My.sgnF 64 r).natAbs = 1 := by unfold My.sgnF; split <;> rfl
  refine ⟨g1, ?_, e1.2⟩
  refine Sz.mono (Sz.shl (m := 52 + 1) ?_ e1.1) (by decide)
  unfold Sz
  rw [Int.natAbs_mul, s1, Nat.one_mul]
  exact m1

theorem steps_fix {w p : Nat} {s : Bool} {c : Int} (hw : w = 8 ∨ w = 16 ∨ w = 32 ∨ w = 64) (hp : p ≤ w) (hk : c = (if s = true then 65536 else 131072) + w * 256 + p) (r : Nat) :
    m_steps_of c (r : Int) = My.numFix w s r := by
  obtain ⟨ew, ep, ek⟩ := fix_parts hw hp hk
  unfold m_steps_of m_sign_bit My.numFix
  rw [ew, ek, Int.one_mul, Int.one_mul, Int.toNat_natCast]
  have e1 : ((2 : Int) ^ ((w : Int) - 1).toNat) = ((2 ^ (w - 1) : Nat) : Int) := by rw [Int.natCast_pow, show ((w : Int) - 1).toNat = w - 1 by omega]; rfl
  rw [e1]
  cases s
  · rw [if_neg (show ¬ (if false = true then (1 : Int) else 2) = 1 by decide), if_neg (fun z => by cases z.1)]
  · rw [if_pos (show (if true = true then (1 : Int) else 2) = 1 by decide)]
    by_cases c1 : ((2 ^ (w - 1) : Nat) : Int) ≤ (r : Int)
    · rw [if_pos c1, if_pos ⟨rfl, by omega⟩]
    · rw [if_neg c1, if_neg (fun z => c1 (by omega))]
theorem worth_is {c r : Int} (h : m_is_raw c r = true) : ∃ n : Nat, n ≤ 1074 ∧ (m_worth_of c r).2 = 2 ^ n ∧ Sz 1025 (m_worth_of c r).1 ∧ ShNumSeed.worthOf c r = some (((m_worth_of c r).1 : Rat) / ((m_worth_of c r).2 : Rat)) := by
  obtain ⟨f, i, h0, hg, e⟩ := raw_some h
  obtain ⟨n, rfl⟩ : ∃ n : Nat, r = (n : Int) := ⟨r.toNat, by omega⟩
  rw [Int.toNat_natCast] at hg e
  rw [e]
  unfold m_worth_of
  cases i with
  | truth =>
    have k : m_kind_of 2048 = 0 := by decide
    have pp : m_point_of 2048 = 0 := by decide
    have g : n ≤ 1 := by
      have g' : decide (n ≤ 1) = true := hg
      exact of_decide_eq_true g'
    rw [k, if_neg (by decide), pp]
    unfold m_steps_of
    rw [k, if_neg (by decide)]
    refine ⟨0, by decide, rfl, ?_, ?_⟩
    · refine Sz.mono (m := 1) ?_ (by decide)
      show (n : Int).natAbs < 2 ^ 1
      omega
    · show some (if n = 0 then (0 : Rat) else 1) = some (((n : Int) : Rat) / (((1 * 2 ^ (0 : Int).toNat : Int)) : Rat))
      rw [show (1 * 2 ^ (0 : Int).toNat : Int) = 1 by decide, ← My.qone]
      have : n = 0 ∨ n = 1 := by omega
      rcases this with h | h <;> subst h <;> rfl
  | f32 =>
    have k : m_kind_of 204800 = 3 := by decide
    obtain ⟨g1, g2, g3⟩ := fb_f32 hg
    rw [k, if_pos rfl, fw_f32 g1]
    exact ⟨_, g3, rfl, g2, by rw [My.value32, My.valueF_q]⟩
  | f64 =>
    have k : m_kind_of 212992 = 3 := by decide
    obtain ⟨g1, g2, g3⟩ := fb_f64 hg
    rw [k, if_pos rfl, fw_f64 g1]
    exact ⟨_, g3, rfl, g2, by rw [My.value64, My.valueF_q]⟩
  | @fix _ w p s hw hp hk =>
    obtain ⟨ew, ep, ek⟩ := fix_parts hw hp hk
    have g : n < 2 ^ w := by
      have g' : decide (n < 2 ^ w) = true := hg
      exact of_decide_eq_true g'
    rw [ek, if_neg (by cases s <;> decide), steps_fix hw hp hk, ep, Int.one_mul, Int.toNat_natCast]
    refine ⟨p, by omega, rfl, ?_, by rw [My.valueFix p s g]⟩
    have w64 : 2 ^ w ≤ 2 ^ 64 := Nat.pow_le_pow_right (by decide) (by omega)
    have z64 : (2 : Int) ^ w = ((2 ^ w : Nat) : Int) := by rw [Int.natCast_pow]; rfl
    refine Sz.mono (m := 65) ?_ (by decide)
    unfold Sz My.numFix
    split
    · rw [z64]; omega
    · omega
theorem worth_some {c r : Int} (h : m_is_raw c r = true) : ShNumSeed.worthOf c r = some (((m_worth_of c r).1 : Rat) / ((m_worth_of c r).2 : Rat)) := by
  obtain ⟨n, _, _, _, e⟩ := worth_is h
  exact e
theorem ediv_le_abs {a b : Int} (hb : 0 < b) (ha : 0 ≤ a) : (a / b).natAbs ≤ a.natAbs := by
  have h1 : a / b ≤ a := Int.ediv_le_self b ha
  have h2 : 0 ≤ a / b := Int.ediv_nonneg ha (by omega)
  omega
theorem abs_nn (i : Int) : 0 ≤ absI i := by rw [absI_natAbs]; omega
theorem point_lt (c : Int) : m_point_of c < 256 := by unfold m_point_of; omega
theorem point_nn (c : Int) : 0 ≤ m_point_of c := by unfold m_point_of; omega
theorem sign_pos (c : Int) : 0 < m_sign_bit c := by unfold m_sign_bit; rw [Int.one_mul]; exact My.pow2_pos _
theorem one_pos (n : Nat) : (0 : Int) < 1 * 2 ^ n := by rw [Int.one_mul]; exact My.pow2_pos n
theorem raw_fmt {c r : Int} (h : m_is_raw c r = true) : m_is_format c = true := by
  unfold m_is_raw at h
  split at h
  · assumption
  · cases h
theorem fbits {c : Int} (W : m_width_of c = 32 ∨ m_width_of c = 64) : 0 ≤ dictI [(32, 23), (64, 52)] (m_width_of c) ∧ dictI [(32, 23), (64, 52)] (m_width_of c) ≤ 52 := by
  rcases W with h | h <;> rw [h] <;> decide
theorem lplaces {c : Int} (W : m_width_of c = 32 ∨ m_width_of c = 64) : 0 ≤ dictI [(32, 149), (64, 1074)] (m_width_of c) ∧ dictI [(32, 149), (64, 1074)] (m_width_of c) ≤ 1074 := by
  rcases W with h | h <;> rw [h] <;> decide
theorem expo_lt {c : Int} (r : Int) (W : m_width_of c = 32 ∨ m_width_of c = 64) : (r % m_sign_bit c) / 2 ^ (dictI [(32, 23), (64, 52)] (m_width_of c)).toNat < 2048 := by
  unfold m_sign_bit
  rcases W with h | h
  · rw [h, show ((1 : Int) * 2 ^ (32 - 1 : Int).toNat) = 2147483648 from rfl, show ((2 : Int) ^ (dictI [(32, 23), (64, 52)] 32).toNat) = 8388608 from rfl]
    omega
  · rw [h, show ((1 : Int) * 2 ^ (64 - 1 : Int).toNat) = 9223372036854775808 from rfl, show ((2 : Int) ^ (dictI [(32, 23), (64, 52)] 64).toNat) = 4503599627370496 from rfl]
    omega
theorem frac_sz {c : Int} (z : Int) (W : m_width_of c = 32 ∨ m_width_of c = 64) : Sz 53 (z % (1 * 2 ^ (dictI [(32, 23), (64, 52)] (m_width_of c)).toNat)) ∧ Sz 54 (z % (1 * 2 ^ (dictI [(32, 23), (64, 52)] (m_width_of c)).toNat) + 1 * 2 ^ (dictI [(32, 23), (64, 52)] (m_width_of c)).toNat) := by
  have fb := fbits W
  have p := one_pos (dictI [(32, 23), (64, 52)] (m_width_of c)).toNat
  have h1 := Int.emod_nonneg z (show (1 * 2 ^ (dictI [(32, 23), (64, 52)] (m_width_of c)).toNat : Int) ≠ 0 by omega)
  have h2 := Int.emod_lt_of_pos z p
  have s : Sz 53 (1 * 2 ^ (dictI [(32, 23), (64, 52)] (m_width_of c)).toNat) := by
    rw [Int.one_mul]; exact Sz.two _ (by omega)
  have s1 := s.of_le (i := z % (1 * 2 ^ (dictI [(32, 23), (64, 52)] (m_width_of c)).toNat)) (by omega)
  exact ⟨s1, (s1.add s).mono (by decide)⟩
def qv (p : Int × Int) : Rat := (p.1 : Rat) / (p.2 : Rat)
theorem emod_right {a b c : Int} (h : 0 < c) : (a * c) % (b * c) = (a % b) * c := by rw [Int.mul_comm a c, Int.mul_comm b c, Int.mul_emod_mul_of_pos _ _ h, Int.mul_comm]
def bI (l : List UInt8) : List Int := l.map fun (c : UInt8) => (c.toNat : Int)
theorem bI_append (a b : List UInt8) : bI (a ++ b) = bI a ++ bI b := List.map_append
theorem bI_dg {n : Nat} (h : n < 10) : bI [My.dgB n] = [48 + (n : Int)] := by
  unfold bI My.dgB
  show [((UInt8.ofNat (48 + n)).toNat : Int)] = _
  have e : (UInt8.ofNat (48 + n)).toNat = 48 + n := by
    rw [UInt8.toNat_ofNat']
    omega
  rw [e]; rfl
def dgI (n : Int) : List Int := bI (Sh.digitsOf n.toNat)
theorem dgI_lt {n : Int} (h0 : 0 ≤ n) (h : n < 10) : dgI n = [48 + n % 10] := by
  unfold dgI
  rw [My.digits_lt (by omega), bI_dg (by omega)]
  congr 1; omega
theorem dgI_step {n : Int} (h : 10 ≤ n) : dgI n = dgI (n / 10) ++ [48 + n % 10] := by
  unfold dgI
  rw [My.digits_step (by omega), bI_append, bI_dg (by omega), show (n / 10).toNat = n.toNat / 10 by omega]
  congr 2; omega
def rvI (n : Int) : List Int := (dgI n).reverse
theorem rvI_lt {n : Int} (h0 : 0 ≤ n) (h : n < 10) : rvI n = [48 + n % 10] := by unfold rvI; rw [dgI_lt h0 h]; rfl
theorem rvI_step {n : Int} (h : 10 ≤ n) : rvI n = (48 + n % 10) :: rvI (n / 10) := by unfold rvI; rw [dgI_step h, List.reverse_append]; rfl
theorem dgI_len : ∀ (k : Nat) {n : Int}, 0 ≤ n → n < 2 ^ k → (dgI n).length ≤ k + 1
  | 0, n, h0, h => by
    have : n = 0 := by simp at h; omega
    rw [dgI_lt h0 (by omega)]; simp
  | k + 1, n, h0, h => by
    by_cases c : n < 10
    · rw [dgI_lt h0 c]; simp
    · rw [dgI_step (by omega), List.length_append]
      have := dgI_len k (n := n / 10) (by omega) (by rw [Int.pow_succ] at h; omega)
      simp only [List.length_cons, List.length_nil]; omega
theorem sz_lt {n : Nat} {i : Int} (h : Sz n i) : i < 2 ^ n := by
  unfold Sz at h
  have : ((i.natAbs : Nat) : Int) < ((2 ^ n : Nat) : Int) := by exact_mod_cast h
  rw [Int.natCast_pow] at this
  have e : i ≤ ((i.natAbs : Nat) : Int) := by omega
  exact Int.lt_of_le_of_lt e this
def pdI (k : Nat) (x : Int) : List Int := bI (My.padB k (x.toNat))
theorem pdI_len (k : Nat) (x : Int) : (pdI k x).length = k := by unfold pdI bI; rw [List.length_map, My.padB_len]
theorem pdI_zero (x : Int) : pdI 0 x = [] := rfl
theorem pdI_step {ρ : Int} {m : Nat} (h0 : 0 ≤ ρ) (h1 : ρ < 2 ^ (m + 1)) : pdI (m + 1) (ρ * 5 ^ (m + 1)) = (48 + 10 * ρ / 2 ^ (m + 1)) :: pdI m ((5 * ρ % 2 ^ m) * 5 ^ m) := by
  obtain ⟨r, rfl⟩ : ∃ r : Nat, ρ = (r : Int) := ⟨ρ.toNat, by omega⟩
  have p2 : (0 : Nat) < 2 ^ m := Nat.pow_pos (by decide)
  have p5 : (0 : Nat) < 5 ^ m := Nat.pow_pos (by decide)
  have h1' : r < 2 ^ (m + 1) := by exact_mod_cast h1
  unfold pdI
  have e1 : ((r : Int) * 5 ^ (m + 1)).toNat = r * 5 ^ (m + 1) := by
    have : ((r : Int) * 5 ^ (m + 1)) = ((r * 5 ^ (m + 1) : Nat) : Int) := by push_cast; rfl
    rw [this, Int.toNat_natCast]
  have e2 : ((5 * (r : Int) % 2 ^ m) * 5 ^ m).toNat = (5 * r % 2 ^ m) * 5 ^ m := by
    have : ((5 * (r : Int) % 2 ^ m) * 5 ^ m) = (((5 * r % 2 ^ m) * 5 ^ m : Nat) : Int) := by push_cast; rfl
    rw [this, Int.toNat_natCast]
  rw [e1, e2, My.padB_head]
  have t : (10 : Nat) ^ m = 2 ^ m * 5 ^ m := by rw [← Nat.mul_pow]
  have a : r * 5 ^ (m + 1) = 5 * r * 5 ^ m := by rw [Nat.pow_succ]; ac_rfl
  have d1 : r * 5 ^ (m + 1) / 10 ^ m = 5 * r / 2 ^ m := by rw [a, t, Nat.mul_div_mul_right _ _ p5]
  have d2 : r * 5 ^ (m + 1) % 10 ^ m = (5 * r % 2 ^ m) * 5 ^ m := by rw [a, t, Nat.mul_mod_mul_right]
  have d3 : 5 * r / 2 ^ m < 10 := by
    rw [Nat.div_lt_iff_lt_mul p2]
    rw [Nat.pow_succ] at h1'
    omega
  have d4 : 10 * r / 2 ^ (m + 1) = 5 * r / 2 ^ m := by
    rw [Nat.pow_succ, show 10 * r = 5 * r * 2 by omega, Nat.mul_div_mul_right _ _ (by decide)]
  rw [d1, d2, Nat.mod_eq_of_lt d3]
  have : (10 * (r : Int) / 2 ^ (m + 1)) = ((5 * r / 2 ^ m : Nat) : Int) := by rw [← d4]; push_cast; rfl
  rw [this]
  show bI ([My.dgB (5 * r / 2 ^ m)] ++ _) = _
  rw [bI_append, bI_dg d3]
  rfl
def Left (n : Nat) (rest : Int) (j : Nat) (ρ : Int) : Prop := j ≤ n ∧ rest = ρ * 2 ^ (n - j) ∧ ((j = 0 ∧ ρ = 0) ∨ (ρ % 2 = 1 ∧ 0 ≤ ρ ∧ ρ < 2 ^ j))
theorem Left.pos {n j : Nat} {rest ρ : Int} (h : Left n rest j ρ) : 0 < rest ↔ 0 < j := by
  obtain ⟨h1, h2, h3⟩ := h
  have p := My.pow2_pos (n - j)
  rcases h3 with ⟨a, b⟩ | ⟨a, b, c⟩
  · rw [h2, b, Int.zero_mul]; omega
  · have r0 : 0 < ρ := by omega
    have : 0 < rest := by rw [h2]; exact Int.mul_pos r0 p
    have j0 : 0 < j := by
      refine Nat.pos_of_ne_zero fun z => ?_
      rw [z] at c
      have : ρ < 1 := c
      omega
    omega
theorem Left.step {n m : Nat} {rest ρ : Int} (h : Left n rest (m + 1) ρ) : 0 ≤ ρ ∧ ρ < 2 ^ (m + 1) ∧ rest * 10 / 2 ^ n = 10 * ρ / 2 ^ (m + 1) ∧ Left n (rest * 10 % 2 ^ n) m (5 * ρ % 2 ^ m) := by
  obtain ⟨h1, h2, h3⟩ := h
  have h4 : ρ % 2 = 1 ∧ 0 ≤ ρ ∧ ρ < 2 ^ (m + 1) := by
    rcases h3 with h | h
    · omega
    · exact h
  obtain ⟨a, b, c⟩ := h4
  have pn := My.pow2_pos (n - (m + 1))
  have pm := My.pow2_pos m
  have en : (2 : Int) ^ n = 2 ^ (m + 1) * 2 ^ (n - (m + 1)) := by rw [← Int.pow_add]; congr 1; omega
  have e1 : rest * 10 = 10 * ρ * 2 ^ (n - (m + 1)) := by rw [h2]; ac_rfl
  refine ⟨b, c, ?_, by omega, ?_, ?_⟩
  · rw [e1, en, Int.mul_ediv_mul_of_pos_left _ _ pn]
  · rw [e1, en, emod_right pn]
    have e2 : (10 * ρ) % 2 ^ (m + 1) = 2 * (5 * ρ % 2 ^ m) := by
      rw [Int.pow_succ, Int.mul_comm (2 ^ m) 2, show 10 * ρ = 2 * (5 * ρ) by omega, Int.mul_emod_mul_of_pos _ _ (by decide)]
    rw [e2, show n - m = (n - (m + 1)) + 1 by omega, Int.pow_succ]
    ac_rfl
  · by_cases z : m = 0
    · left
      refine ⟨z, ?_⟩
      subst z
      simp
    · right
      have pp : (2 : Int) ^ m = 2 * 2 ^ (m - 1) := by rw [Int.mul_comm, ← Int.pow_succ]; congr 1; omega
      have q0 := Int.emod_nonneg (5 * ρ) (show (2 : Int) ^ m ≠ 0 by omega)
      have q1 := Int.emod_lt_of_pos (5 * ρ) pm
      have q2 : (5 * ρ % 2 ^ m) % 2 = (5 * ρ) % 2 := Int.emod_emod_of_dvd _ ⟨2 ^ (m - 1), pp⟩
      exact ⟨by omega, q0, q1⟩
theorem red : ∀ (n : Nat) (t : Int), ∃ (k : Nat) (a : Int), k ≤ n ∧ t = a * 2 ^ (n - k) ∧ (k = 0 ∨ a % 2 = 1)
  | 0, t => ⟨0, t, Nat.le_refl _, by simp, .inl rfl⟩
  | n + 1, t => by
    by_cases c : t % 2 = 1
    · exact ⟨n + 1, t, Nat.le_refl _, by simp, .inr c⟩
    · obtain ⟨k, a, h1, h2, h3⟩ := red n (t / 2)
      refine ⟨k, a, by omega, ?_, h3⟩
      rw [show n + 1 - k = (n - k) + 1 by omega, Int.pow_succ, ← Int.mul_assoc, ← h2]
      omega
theorem full_is {t : Int} {n : Nat} (hn : n ≤ 1074) : ∃ (k : Nat) (ρ : Int), Left n ((t.natAbs : Int) % 2 ^ n) k ρ ∧
    bI (Sh.inFull ((t : Rat) / ((2 ^ n : Int) : Rat))) = (if t < 0 then [45] else []) ++ (dgI ((t.natAbs : Int) / 2 ^ n) ++ (if k = 0 then [] else 46 :: pdI k (ρ * 5 ^ k))) := by
  obtain ⟨k, a, h1, h2, h3⟩ := red n t
  have pk := My.pow2_pos k
  have pn := My.pow2_pos (n - k)
  have en : (2 : Int) ^ n = 2 ^ k * 2 ^ (n - k) := by rw [← Int.pow_add]; congr 1; omega
  have ab : (t.natAbs : Int) = (a.natAbs : Int) * 2 ^ (n - k) := by
    rw [h2, Int.natAbs_mul, Int.natAbs_pow, Int.natCast_mul, Int.natCast_pow]; rfl
  have sg : t < 0 ↔ a < 0 := by
    rw [h2]
    constructor
    · intro z
      refine Int.not_le.mp fun c => ?_
      have := Int.mul_nonneg c (Int.le_of_lt pn)
      omega
    · intro z
      exact Int.mul_neg_of_neg_of_pos z pn
  refine ⟨k, (a.natAbs : Int) % 2 ^ k, ⟨h1, ?_, ?_⟩, ?_⟩
  · rw [ab, en, emod_right pn]
  · rcases h3 with h | h
    · left
      refine ⟨h, ?_⟩
      subst h
      simp
    · by_cases z : k = 0
      · left
        refine ⟨z, ?_⟩
        subst z
        simp
      · right
        have pp : (2 : Int) ^ k = 2 * 2 ^ (k - 1) := by rw [Int.mul_comm, ← Int.pow_succ]; congr 1; omega
        have q2 : ((a.natAbs : Int) % 2 ^ k) % 2 = (a.natAbs : Int) % 2 := Int.emod_emod_of_dvd _ ⟨2 ^ (k - 1), pp⟩
        exact ⟨by omega, Int.emod_nonneg _ (by omega), Int.emod_lt_of_pos _ pk⟩
  · have q : (t : Rat) / ((2 ^ n : Int) : Rat) = (a : Rat) / ((2 ^ k : Int) : Rat) := by rw [h2, en, My.qscale pn]
    rw [q, My.inFull_eq h3 (by omega), bI_append, bI_append]
    congr 1
    · by_cases c : t < 0
      · rw [if_pos c, if_pos (sg.mp c)]; rfl
      · rw [if_neg c, if_neg (fun z => c (sg.mpr z))]; rfl
    · congr 1
      · unfold dgI
        congr 2
        rw [ab, en, Int.mul_ediv_mul_of_pos_left _ _ pn]
        have : ((a.natAbs : Int) / 2 ^ k) = ((a.natAbs / 2 ^ k : Nat) : Int) := by push_cast; rfl
        rw [this, Int.toNat_natCast]
      · by_cases c : k = 0
        · rw [if_pos c, if_pos c]; rfl
        · rw [if_neg c, if_neg c]
          unfold pdI
          show bI ([46] ++ _) = _
          rw [bI_append]
          have : (((a.natAbs : Int) % 2 ^ k) * 5 ^ k).toNat = a.natAbs % 2 ^ k * 5 ^ k := by
            have : (((a.natAbs : Int) % 2 ^ k) * 5 ^ k) = ((a.natAbs % 2 ^ k * 5 ^ k : Nat) : Int) := by push_cast; rfl
            rw [this, Int.toNat_natCast]
          rw [this]
          rfl
def m_write (c r : Int) : List Int := if m_is_raw c r = true then 0 :: bI (Sh.inFull (qv (m_worth_of c r))) else [-1]
theorem write_eq (c r : Int) : m_write c r = PyWqadbl.write c r := by
  show _ = ShNumSeed.answer (.write c r)
  unfold m_write ShNumSeed.answer
  dsimp only
  by_cases h : m_is_raw c r = true
  · rw [if_pos h, worth_some h]; rfl
  · rw [if_neg h, raw_none h]; rfl

end Py

namespace Py
open PySem PySem.Spec PyProof.Rows L2 TL
open PySem.W (Codec)
open Sh (Fmt How)
def top (i : Nat) : Stmt := PySem.Challenge.pw_exactraws_s15_write.main.body.getD i (.Pass ⟨0, 0, 0, 0⟩)
abbrev s_kind_of : Stmt := top 11
theorem sc_kind_of : FnScope ["c"] ["c"] (defScope s_kind_of) := ⟨rfl, rfl, rfl, by decide +kernel, rfl, by decide +kernel, by decide +kernel⟩
abbrev s_width_of : Stmt := top 12
theorem sc_width_of : FnScope ["c"] ["c"] (defScope s_width_of) := ⟨rfl, rfl, rfl, by decide +kernel, rfl, by decide +kernel, by decide +kernel⟩
abbrev s_point_of : Stmt := top 13
theorem sc_point_of : FnScope ["c"] ["c"] (defScope s_point_of) := ⟨rfl, rfl, rfl, by decide +kernel, rfl, by decide +kernel, by decide +kernel⟩
abbrev s_is_format : Stmt := top 14
theorem sc_is_format : FnScope ["c"] ["c"] (defScope s_is_format) := ⟨rfl, rfl, rfl, by decide +kernel, rfl, by decide +kernel, by decide +kernel⟩
abbrev s_sign_bit : Stmt := top 15
theorem sc_sign_bit : FnScope ["c"] ["c"] (defScope s_sign_bit) := ⟨rfl, rfl, rfl, by decide +kernel, rfl, by decide +kernel, by decide +kernel⟩
abbrev s_infinity_raw : Stmt := top 16
theorem sc_infinity_raw : FnScope ["c"] ["c"] (defScope s_infinity_raw) := ⟨rfl, rfl, rfl, by decide +kernel, rfl, by decide +kernel, by decide +kernel⟩
abbrev s_digits_of : Stmt := top 19
theorem sc_digits_of : FnScope ["number", "digits"] ["number"] (defScope s_digits_of) := ⟨rfl, rfl, rfl, by decide +kernel, rfl, by decide +kernel, by decide +kernel⟩
abbrev s_digits_behind_point : Stmt := top 25
theorem sc_digits_behind_point : FnScope ["rest", "bottom", "digits"] ["rest", "bottom"] (defScope s_digits_behind_point) := ⟨rfl, rfl, rfl, by decide +kernel, rfl, by decide +kernel, by decide +kernel⟩
abbrev s_written : Stmt := top 26
theorem sc_written : FnScope ["x", "size", "text", "behind"] ["x"] (defScope s_written) := ⟨rfl, rfl, rfl, by decide +kernel, rfl, by decide +kernel, by decide +kernel⟩
abbrev s_fits_width : Stmt := top 28
theorem sc_fits_width : FnScope ["c", "bits"] ["c", "bits"] (defScope s_fits_width) := ⟨rfl, rfl, rfl, by decide +kernel, rfl, by decide +kernel, by decide +kernel⟩
abbrev s_is_raw : Stmt := top 29
theorem sc_is_raw : FnScope ["c", "r"] ["c", "r"] (defScope s_is_raw) := ⟨rfl, rfl, rfl, by decide +kernel, rfl, by decide +kernel, by decide +kernel⟩
abbrev s_is_good : Stmt := top 30
theorem sc_is_good : FnScope ["c", "r", "kind"] ["c", "r"] (defScope s_is_good) := ⟨rfl, rfl, rfl, by decide +kernel, rfl, by decide +kernel, by decide +kernel⟩
abbrev s_steps_of : Stmt := top 31
theorem sc_steps_of : FnScope ["c", "r"] ["c", "r"] (defScope s_steps_of) := ⟨rfl, rfl, rfl, by decide +kernel, rfl, by decide +kernel, by decide +kernel⟩
abbrev s_float_worth : Stmt := top 32
theorem sc_float_worth : FnScope ["c", "r", "size", "fraction_bits", "steps", "place", "exponent"] ["c", "r"] (defScope s_float_worth) := ⟨rfl, rfl, rfl, by decide +kernel, rfl, by decide +kernel, by decide +kernel⟩
abbrev s_worth_of : Stmt := top 33
theorem sc_worth_of : FnScope ["c", "r"] ["c", "r"] (defScope s_worth_of) := ⟨rfl, rfl, rfl, by decide +kernel, rfl, by decide +kernel, by decide +kernel⟩
abbrev s_write : Stmt := top 36
theorem sc_write : FnScope ["c", "r"] ["c", "r"] (defScope s_write) := ⟨rfl, rfl, rfl, by decide +kernel, rfl, by decide +kernel, by decide +kernel⟩
abbrev s_Ratio_init : Stmt := inClass (top 21) 0
theorem sc_Ratio_init : FnScope ["self", "top", "bottom"] ["self", "top", "bottom"] (defScope s_Ratio_init) := ⟨rfl, rfl, rfl, by decide +kernel, rfl, by decide +kernel, by decide +kernel⟩
structure Txt (K : PySem.W.Frag) (mg : Str → Option Value) : Type where
  f_kind_of : Addr
  fd_kind_of : FuncData
  F_kind_of : Fun K "kind_of" "kind_of" s_kind_of f_kind_of fd_kind_of
  m_kind_of : mg "kind_of" = some (.ref f_kind_of)
  f_width_of : Addr
  fd_width_of : FuncData
  F_width_of : Fun K "width_of" "width_of" s_width_of f_width_of fd_width_of
  m_width_of : mg "width_of" = some (.ref f_width_of)
  f_point_of : Addr
  fd_point_of : FuncData
  F_point_of : Fun K "point_of" "point_of" s_point_of f_point_of fd_point_of
  m_point_of : mg "point_of" = some (.ref f_point_of)
  f_is_format : Addr
  fd_is_format : FuncData
  F_is_format : Fun K "is_format" "is_format" s_is_format f_is_format fd_is_format
  m_is_format : mg "is_format" = some (.ref f_is_format)
  f_sign_bit : Addr
  fd_sign_bit : FuncData
  F_sign_bit : Fun K "sign_bit" "sign_bit" s_sign_bit f_sign_bit fd_sign_bit
  m_sign_bit : mg "sign_bit" = some (.ref f_sign_bit)
  f_infinity_raw : Addr
  fd_infinity_raw : FuncData
  F_infinity_raw : Fun K "infinity_raw" "infinity_raw" s_infinity_raw f_infinity_raw fd_infinity_raw
  m_infinity_raw : mg "infinity_raw" = some (.ref f_infinity_raw)
  f_digits_of : Addr
  fd_digits_of : FuncData
  F_digits_of : Fun K "digits_of" "digits_of" s_digits_of f_digits_of fd_digits_of
  m_digits_of : mg "digits_of" = some (.ref f_digits_of)
  f_digits_behind_point : Addr
  fd_digits_behind_point : FuncData
  F_digits_behind_point : Fun K "digits_behind_point" "digits_behind_point" s_digits_behind_point f_digits_behind_point fd_digits_behind_point
  m_digits_behind_point : mg "digits_behind_point" = some (.ref f_digits_behind_point)
  f_written : Addr
  fd_written : FuncData
  F_written : Fun K "written" "written" s_written f_written fd_written
  m_written : mg "written" = some (.ref f_written)
  f_fits_width : Addr
  fd_fits_width : FuncData
  F_fits_width : Fun K "fits_width" "fits_width" s_fits_width f_fits_width fd_fits_width
  m_fits_width : mg "fits_width" = some (.ref f_fits_width)
  f_is_raw : Addr
  fd_is_raw : FuncData
  F_is_raw : Fun K "is_raw" "is_raw" s_is_raw f_is_raw fd_is_raw
  m_is_raw : mg "is_raw" = some (.ref f_is_raw)
  f_is_good : Addr
  fd_is_good : FuncData
  F_is_good : Fun K "is_good" "is_good" s_is_good f_is_good fd_is_good
  m_is_good : mg "is_good" = some (.ref f_is_good)
  f_steps_of : Addr
  fd_steps_of : FuncData
  F_steps_of : Fun K "steps_of" "steps_of" s_steps_of f_steps_of fd_steps_of
  m_steps_of : mg "steps_of" = some (.ref f_steps_of)
  f_float_worth : Addr
  fd_float_worth : FuncData
  F_float_worth : Fun K "float_worth" "float_worth" s_float_worth f_float_worth fd_float_worth
  m_float_worth : mg "float_worth" = some (.ref f_float_worth)
  f_worth_of : Addr
  fd_worth_of : FuncData
  F_worth_of : Fun K "worth_of" "worth_of" s_worth_of f_worth_of fd_worth_of
  m_worth_of : mg "worth_of" = some (.ref f_worth_of)
  f_write : Addr
  fd_write : FuncData
  F_write : Fun K "write" "write" s_write f_write fd_write
  m_write : mg "write" = some (.ref f_write)
  a_Ratio : Addr
  f_Ratio_init : Addr
  fd_Ratio_init : FuncData
  F_Ratio_init : Fun K "__init__" "Ratio.__init__" s_Ratio_init f_Ratio_init fd_Ratio_init
  m_Ratio : mg "Ratio" = some (.ref a_Ratio)
  cl_Ratio : Cls K a_Ratio
  mk_Ratio : Mk K a_Ratio f_Ratio_init
  na_Ratio_top : NoAttr K a_Ratio "top"
  na_Ratio_bottom : NoAttr K a_Ratio "bottom"
  c_TRUTH : ∃ u, mg "TRUTH" = some u ∧ RelV (.int (0)) u
  c_SIGNED : ∃ u, mg "SIGNED" = some u ∧ RelV (.int (1)) u
  c_UNSIGNED : ∃ u, mg "UNSIGNED" = some u ∧ RelV (.int (2)) u
  c_FLOAT : ∃ u, mg "FLOAT" = some u ∧ RelV (.int (3)) u
  c_T : ∃ u, mg "T" = some u ∧ RelV (.int (2048)) u
  c_F32 : ∃ u, mg "F32" = some u ∧ RelV (.int (204800)) u
  c_F64 : ∃ u, mg "F64" = some u ∧ RelV (.int (212992)) u
  a_WIDTHS : Addr
  c_WIDTHS : ∃ u, mg "WIDTHS" = some u ∧ RelV (.ref a_WIDTHS) u
  q_WIDTHS : ∀ H : Hp, SqT K H a_WIDTHS [.int (8), .int (16), .int (32), .int (64)]
  a_FRACTION_BITS : Addr
  c_FRACTION_BITS : ∃ u, mg "FRACTION_BITS" = some u ∧ RelV (.ref a_FRACTION_BITS) u
  q_FRACTION_BITS : DictK K a_FRACTION_BITS [(32, .int (23)), (64, .int (52))]
  a_LOWEST_PLACES : Addr
  c_LOWEST_PLACES : ∃ u, mg "LOWEST_PLACES" = some u ∧ RelV (.ref a_LOWEST_PLACES) u
  q_LOWEST_PLACES : DictK K a_LOWEST_PLACES [(32, .int (149)), (64, .int (1074))]
  c_NOUGHT : ∃ u, mg "NOUGHT" = some u ∧ RelV (.int (48)) u
  c_MINUS : ∃ u, mg "MINUS" = some u ∧ RelV (.int (45)) u
  c_POINT : ∃ u, mg "POINT" = some u ∧ RelV (.int (46)) u
  c_WRONG_ARGUMENT : ∃ u, mg "WRONG_ARGUMENT" = some u ∧ RelV (.int (-1)) u
  n_abs : mg "abs" = none
  n_len : mg "len" = none
  n_list : mg "list" = none
  n_reversed : mg "reversed" = none
section
variable {P : Program} {w : World} {K : PySem.W.Frag} {mg : Str → Option Value} {base : Heap}
theorem bd_Ratio_init (T : Txt K mg) : Binds K T.fd_Ratio_init ["self", "top", "bottom"] [] := T.F_Ratio_init.binds (ps := ["self", "top", "bottom"]) fun _ _ _ _ _ _ us hl => match us, hl with | [_, _, _], _ => rfl
theorem ok_Ratio_init (T : Txt K mg) : FnOk P w K mg base CX0 1 T.f_Ratio_init T.fd_Ratio_init ["self", "top", "bottom"] (sp_Ratio_init T.a_Ratio) := by
  refine T.F_Ratio_init.ok sc_Ratio_init (fun vs H Q E h => ?_) (fun cdv A outer s H vs Q E hr h => ?_)
  · obtain ⟨p, dx, t, b, rfl, _⟩ := h
    rfl
  · obtain ⟨p, dx, t, b, rfl, hp, k⟩ := h
    refine ⟨_, pss_cons (ps_fld (pv 0) (pv 1) rfl) (pss_one (ps_fld (pv 0) (pv 2) rfl)), ?_⟩
    refine ⟨_, rfl, _, rfl, p, T.a_Ratio, dx, [], rfl, hp, T.cl_Ratio, T.na_Ratio_top, (by show 0 < 1000; decide), ?_⟩
    refine ⟨_, rfl, _, rfl, p, T.a_Ratio, dx, _, rfl, upd_same, T.cl_Ratio, T.na_Ratio_bottom, (by show 1 < 1000; decide), ?_⟩
    exact k _ ⟨dx, upd_same⟩ fun a o e ha => by rw [upd_ne ha, upd_ne ha]; exact e
def sp_kind_of : Sp := fun vs H Q _ => ∃ (c : Int), vs = [.int c] ∧ (True) ∧ ∀ H' : Hp, Same H H' → Q (.int (m_kind_of c)) H'
theorem bd_kind_of (T : Txt K mg) : Binds K T.fd_kind_of ["c"] [] := T.F_kind_of.binds (ps := ["c"]) fun _ _ _ _ _ _ us hl => match us, hl with | [_], _ => rfl
theorem ok_kind_of (T : Txt K mg) : FnOk P w K mg base CX0 1 T.f_kind_of T.fd_kind_of ["c"] sp_kind_of := by
  refine T.F_kind_of.ok sc_kind_of (fun vs H Q E h => ?_) (fun cdv A outer s H vs Q E hr h => ?_)
  · obtain ⟨c, rfl, _⟩ := h
    rfl
  · obtain ⟨c, rfl, hpre, k⟩ := h
    refine ⟨_, (pss_one (ps_ret (pe_op op_fdivB (pv 0) pe_int))), ?_⟩
    refine ⟨_, rfl, _, _, rfl, rfl, ⟨by decide, by decide⟩, ?_⟩
    exact leaf k Same.refl2 (congrArg V.int (rfl))
def sp_width_of : Sp := fun vs H Q _ => ∃ (c : Int), vs = [.int c] ∧ (True) ∧ ∀ H' : Hp, Same H H' → Q (.int (m_width_of c)) H'
theorem bd_width_of (T : Txt K mg) : Binds K T.fd_width_of ["c"] [] := T.F_width_of.binds (ps := ["c"]) fun _ _ _ _ _ _ us hl => match us, hl with | [_], _ => rfl
theorem ok_width_of (T : Txt K mg) : FnOk P w K mg base CX0 1 T.f_width_of T.fd_width_of ["c"] sp_width_of := by
  refine T.F_width_of.ok sc_width_of (fun vs H Q E h => ?_) (fun cdv A outer s H vs Q E hr h => ?_)
  · obtain ⟨c, rfl, _⟩ := h
    rfl
  · obtain ⟨c, rfl, hpre, k⟩ := h
    refine ⟨_, (pss_one (ps_ret (pe_op op_mod (pe_op op_fdivB (pv 0) pe_int) pe_int))), ?_⟩
    refine ⟨_, rfl, _, _, rfl, rfl, ⟨by decide, by decide⟩, _, _, rfl, rfl, (by show (0 : Int) < _; decide), ?_⟩
    exact leaf k Same.refl2 (congrArg V.int (rfl))
def sp_point_of : Sp := fun vs H Q _ => ∃ (c : Int), vs = [.int c] ∧ (True) ∧ ∀ H' : Hp, Same H H' → Q (.int (m_point_of c)) H'
theorem bd_point_of (T : Txt K mg) : Binds K T.fd_point_of ["c"] [] := T.F_point_of.binds (ps := ["c"]) fun _ _ _ _ _ _ us hl => match us, hl with | [_], _ => rfl
theorem ok_point_of (T : Txt K mg) : FnOk P w K mg base CX0 1 T.f_point_of T.fd_point_of ["c"] sp_point_of := by
  refine T.F_point_of.ok sc_point_of (fun vs H Q E h => ?_) (fun cdv A outer s H vs Q E hr h => ?_)
  · obtain ⟨c, rfl, _⟩ := h
    rfl
  · obtain ⟨c, rfl, hpre, k⟩ := h
    refine ⟨_, (pss_one (ps_ret (pe_op op_mod (pv 0) pe_int))), ?_⟩
    refine ⟨_, rfl, _, _, rfl, rfl, (by show (0 : Int) < _; decide), ?_⟩
    exact leaf k Same.refl2 (congrArg V.int (rfl))
def sp_is_format : Sp := fun vs H Q _ => ∃ (c : Int), vs = [.int c] ∧ (True) ∧ ∀ H' : Hp, Same H H' → Q (.bl (m_is_format c)) H'
theorem bd_is_format (T : Txt K mg) : Binds K T.fd_is_format ["c"] [] := T.F_is_format.binds (ps := ["c"]) fun _ _ _ _ _ _ us hl => match us, hl with | [_], _ => rfl
theorem ok_is_format (T : Txt K mg) : FnOk P w K mg base CX0 2 T.f_is_format T.fd_is_format ["c"] sp_is_format := by
  refine T.F_is_format.ok sc_is_format (fun vs H Q E h => ?_) (fun cdv A outer s H vs Q E hr h => ?_)
  · obtain ⟨c, rfl, _⟩ := h
    rfl
  · obtain ⟨c, rfl, hpre, k⟩ := h
    refine ⟨_, (pss_cons (ps_if (pt_cmpR op_inI (pv 0) (pe_tup (pa_cons (pe_globE rfl T.c_T) (pa_cons (pe_globE rfl T.c_F32) (pa_cons (pe_globE rfl T.c_F64) pa_nil)))) (by with_unfolding_all rfl)) (pss_one (ps_ret pe_bl)) pss_nil)
      (pss_cons (ps_if (pt_cmpR op_notInI (pe_call (ok_kind_of T) (hr.mono (by decide)) rfl T.m_kind_of T.F_kind_of.kp (bd_kind_of T) .nil pass0 (pa_cons (pv 0) pa_nil)) (pe_tup (pa_cons (pe_globE rfl T.c_SIGNED) (pa_cons (pe_globE rfl T.c_UNSIGNED) pa_nil))) (by with_unfolding_all rfl)) (pss_one (ps_ret pe_bl)) pss_nil)
      (pss_one (ps_ret (pe_and (pe_cmpR op_inI (pe_call (ok_width_of T) (hr.mono (by decide)) rfl T.m_width_of T.F_width_of.kp (bd_width_of T) .nil pass0 (pa_cons (pv 0) pa_nil)) (pe_globE rfl T.c_WIDTHS) (by with_unfolding_all rfl)) (pe_one (pe_cmpR op_le (pe_call (ok_point_of T) (hr.mono (by decide)) rfl T.m_point_of T.F_point_of.kp (bd_point_of T) .nil pass0 (pa_cons (pv 0) pa_nil)) (pe_call (ok_width_of T) (hr.mono (by decide)) rfl T.m_width_of T.F_width_of.kp (bd_width_of T) .nil pass0 (pa_cons (pv 0) pa_nil)) (nomark _)))))))), ?_⟩
    refine ⟨_, rfl, (by show 3 ≤ sizeLine; decide), fun p_1 h_2 => ?_⟩
    refine ⟨_, _, [(2048), (204800), (212992)], rfl, rfl, (SqT.of upd_same), _, rfl, ?_⟩
    refine iteB (fun c_3 => ?_) (fun c_3 => ?_)
    · replace c_3 : (c ∈ ([(2048), (204800), (212992)] : List Int)) := of_decide_eq_true c_3
      exact leaf k (Same.new h_2) (congrArg V.bl (by unfold m_is_format; rw [if_pos c_3]; try rfl))
    · replace c_3 : ¬ (c ∈ ([(2048), (204800), (212992)] : List Int)) := of_decide_eq_false c_3
      refine ⟨_, rfl, _, rfl, trivial, fun H_4 s_5 => ?_⟩
      refine ⟨(by show 2 ≤ sizeLine; decide), fun p_6 h_7 => ?_⟩
      refine ⟨_, _, [(1), (2)], rfl, rfl, (SqT.of upd_same), _, rfl, ?_⟩
      refine iteB (fun c_8 => ?_) (fun c_8 => ?_)
      · replace c_8 : (¬ ((m_kind_of c) ∈ ([(1), (2)] : List Int))) := of_decide_eq_true c_8
        exact leaf k (Same.trans (Same.trans (Same.new h_2) s_5) (Same.new h_7)) (congrArg V.bl (by unfold m_is_format; rw [if_neg c_3, if_pos c_8]; try rfl))
      · replace c_8 : ¬ (¬ ((m_kind_of c) ∈ ([(1), (2)] : List Int))) := of_decide_eq_false c_8
        refine ⟨_, rfl, _, rfl, trivial, fun H_9 s_10 => ?_⟩
        refine ⟨_, _, [(8), (16), (32), (64)], rfl, rfl, (T.q_WIDTHS _), _, rfl, ?_⟩
        refine iteB (fun c_11 => ?_) (fun c_11 => ?_)
        · replace c_11 : ((m_width_of c) ∈ ([(8), (16), (32), (64)] : List Int)) := of_decide_eq_true c_11
          refine ⟨_, rfl, _, rfl, trivial, fun H_12 s_13 => ?_⟩
          refine ⟨_, rfl, _, rfl, trivial, fun H_14 s_15 => ?_⟩
          refine ⟨_, _, rfl, rfl, ?_⟩
          exact leaf k (Same.trans (Same.trans (Same.trans (Same.trans (Same.trans (Same.new h_2) s_5) (Same.new h_7)) s_10) s_13) s_15) (congrArg V.bl (by unfold m_is_format; rw [if_neg c_3, if_neg c_8, if_pos c_11]; try rfl))
        · replace c_11 : ¬ ((m_width_of c) ∈ ([(8), (16), (32), (64)] : List Int)) := of_decide_eq_false c_11
          exact leaf k (Same.trans (Same.trans (Same.trans (Same.new h_2) s_5) (Same.new h_7)) s_10) (congrArg V.bl (by unfold m_is_format; rw [if_neg c_3, if_neg c_8, if_neg c_11]; try rfl))
def sp_sign_bit : Sp := fun vs H Q _ => ∃ (c : Int), vs = [.int c] ∧ (1 ≤ m_width_of c) ∧ ∀ H' : Hp, Same H H' → Q (.int (m_sign_bit c)) H'
theorem bd_sign_bit (T : Txt K mg) : Binds K T.fd_sign_bit ["c"] [] := T.F_sign_bit.binds (ps := ["c"]) fun _ _ _ _ _ _ us hl => match us, hl with | [_], _ => rfl
theorem ok_sign_bit (T : Txt K mg) : FnOk P w K mg base CX0 2 T.f_sign_bit T.fd_sign_bit ["c"] sp_sign_bit := by
  refine T.F_sign_bit.ok sc_sign_bit (fun vs H Q E h => ?_) (fun cdv A outer s H vs Q E hr h => ?_)
  · obtain ⟨c, rfl, _⟩ := h
    rfl
  · obtain ⟨c, rfl, hpre, k⟩ := h
    refine ⟨_, (pss_one (ps_ret (pe_op op_shlB pe_int (pe_op op_sub (pe_call (ok_width_of T) (hr.mono (by decide)) rfl T.m_width_of T.F_width_of.kp (bd_width_of T) .nil pass0 (pa_cons (pv 0) pa_nil)) pe_int)))), ?_⟩
    refine ⟨_, rfl, _, rfl, trivial, fun H_1 s_2 => ?_⟩
    refine ⟨_, _, rfl, rfl, _, _, rfl, rfl, cshl (by omega) (m := 1) (by decide) (by have := width_lt c; omega), ?_⟩
    exact leaf k s_2 (congrArg V.int (rfl))
def sp_infinity_raw : Sp := fun vs H Q _ => ∃ (c : Int), vs = [.int c] ∧ (m_width_of c = 32 ∨ m_width_of c = 64) ∧ ∀ H' : Hp, Same H H' → Q (.int (m_infinity_raw c)) H'
theorem bd_infinity_raw (T : Txt K mg) : Binds K T.fd_infinity_raw ["c"] [] := T.F_infinity_raw.binds (ps := ["c"]) fun _ _ _ _ _ _ us hl => match us, hl with | [_], _ => rfl
theorem ok_infinity_raw (T : Txt K mg) : FnOk P w K mg base CX0 3 T.f_infinity_raw T.fd_infinity_raw ["c"] sp_infinity_raw := by
  refine T.F_infinity_raw.ok sc_infinity_raw (fun vs H Q E h => ?_) (fun cdv A outer s H vs Q E hr h => ?_)
  · obtain ⟨c, rfl, _⟩ := h
    rfl
  · obtain ⟨c, rfl, hpre, k⟩ := h
    refine ⟨_, (pss_one (ps_ret (pe_op op_sub (pe_call (ok_sign_bit T) (hr.mono (by decide)) rfl T.m_sign_bit T.F_sign_bit.kp (bd_sign_bit T) .nil pass0 (pa_cons (pv 0) pa_nil)) (pe_op op_shlB pe_int (pe_dgetK (hu_of hr) (pe_globE rfl T.c_FRACTION_BITS) (pe_call (ok_width_of T) (hr.mono (by decide)) rfl T.m_width_of T.F_width_of.kp (bd_width_of T) .nil pass0 (pa_cons (pv 0) pa_nil)) (fun _ _ => rfl)))))), ?_⟩
    refine ⟨_, rfl, _, rfl, (by omega), fun H_1 s_2 => ?_⟩
    refine ⟨_, rfl, _, rfl, trivial, fun H_3 s_4 => ?_⟩
    refine ⟨T.a_FRACTION_BITS, .int (dictI [(32, 23), (64, 52)] (m_width_of c)), rfl, _, _, T.q_FRACTION_BITS, rfl, (by rcases hpre with h | h <;> rw [h] <;> rfl), _, _, rfl, rfl, cshl (fbits hpre).1 (m := 1) (by decide) (by have := (fbits hpre).2; omega), _, _, rfl, rfl, ?_⟩
    exact leaf k (Same.trans s_2 s_4) (congrArg V.int (rfl))
def sp_digits_of : Sp := fun vs H Q _ => ∃ (number : Int), vs = [.int number] ∧ (0 ≤ number ∧ Sz 2000 number) ∧ ∀ (H' : Hp) (p : Addr), Same H H' → H p = none → H' p = some (.lst ((dgI number).map V.int)) → Q (.ref p) H'
theorem bd_digits_of (T : Txt K mg) : Binds K T.fd_digits_of ["number"] [] := T.F_digits_of.binds (ps := ["number"]) fun _ _ _ _ _ _ us hl => match us, hl with | [_], _ => rfl
theorem ok_digits_of (T : Txt K mg) : FnOk P w K mg base CX0 1 T.f_digits_of T.fd_digits_of ["number"] sp_digits_of := by
  refine T.F_digits_of.ok sc_digits_of (fun vs H Q E h => ?_) (fun cdv A outer s H vs Q E hr h => ?_)
  · obtain ⟨n, rfl, _⟩ := h
    rfl
  · obtain ⟨n, rfl, ⟨n0, ns⟩, k⟩ := h
    have nl : (rvI n).length ≤ 2001 := by unfold rvI; rw [List.length_reverse]; exact dgI_len 2000 n0 (sz_lt ns)
    refine ⟨_, (pss_cons (ps_set (i := 1) sc_digits_of.nd rfl (Or.inl rfl) (pe_lst (pa_cons (pe_op op_add (pe_globE rfl T.c_NOUGHT) (pe_op op_mod (pv 0) pe_int)) pa_nil)))
      (pss_cons (ps_while PassesOwn.never (pt_cmpR op_ge (pv 0) pe_int (nomark _)) (pss_cons (ps_aug (i := 0) sc_digits_of.nd rfl (Or.inl rfl) pe_int (pip_of iop_fdivB))
      (pss_one (ps_expr (pe_bm PySem.F.plainAttrs_list PySem.F.slot_list_append PySem.F.type_list_append mt_append (pv 1) (pa_cons (pe_op op_add (pe_globE rfl T.c_NOUGHT) (pe_op op_mod (pv 0) pe_int)) pa_nil))))))
      (pss_one (ps_ret (pe_listrev rfl rfl T.n_list rfl T.n_reversed (pv 1)))))), ?_⟩
    refine ⟨_, rfl, _, _, rfl, rfl, (by show (0 : Int) < 10; decide), _, _, rfl, rfl, (by show 1 ≤ sizeLine; decide), fun D hD => ?_⟩
    refine ⟨fun m σ' H' => ∃ (x : Int) (L : List Int), σ' = [some (.int x), some (.ref D)] ∧ H' D = some (.lst (L.map V.int)) ∧ Same H H' ∧ 0 ≤ x ∧ L ++ (if x < 10 then [] else rvI (x / 10)) = rvI n ∧ m = x.toNat, ⟨_, n, [48 + n % 10], rfl, upd_same, Same.new hD, n0, ?_, rfl⟩, ?_⟩
    · by_cases c : n < 10
      · rw [if_pos c, rvI_lt n0 c]; rfl
      · rw [if_neg c]; exact (rvI_step (by omega)).symm
    · rintro m σ' H' ⟨x, L, rfl, hL, sH, x0, eL, rfl⟩
      have Ll : L.length ≤ 2001 := by rw [← eL, List.length_append] at nl; omega
      refine ⟨_, rfl, _, _, rfl, rfl, _, rfl, ?_⟩
      refine iteB (fun c => ?_) (fun c => ?_)
      · replace c : 10 ≤ x := of_decide_eq_true c
        rw [if_neg (by omega)] at eL
        refine ⟨fun σ'' H'' => σ'' = [some (.int (x / 10)), some (.ref D)] ∧ H'' = upd H' D (.lst ((L ++ [48 + x / 10 % 10]).map V.int)), ?_, ?_⟩
        · rintro σ'' H'' ⟨rfl, rfl⟩
          refine ⟨(x / 10).toNat, by omega, x / 10, L ++ [48 + x / 10 % 10], rfl, upd_same, fun b o e => ?_, by omega, ?_, rfl⟩
          · rw [upd_ne (ne_of_none e hD)]; exact sH b o e
          · by_cases c2 : x / 10 < 10
            · rw [if_pos c2, List.append_nil, ← eL, rvI_lt (by omega) c2]
            · rw [if_neg c2, ← eL, rvI_step (show 10 ≤ x / 10 by omega), List.append_assoc]; rfl
        · refine ⟨_, rfl, _, _, rfl, rfl, ⟨by decide, by decide⟩, ?_⟩
          refine ⟨_, rfl, .inl ⟨rfl, _, SqL.of hL⟩, _, rfl, _, _, rfl, rfl, (by show (0 : Int) < 10; decide), _, _, rfl, rfl, D, _, _, rfl, rfl, hL, ?_, rfl, ?_⟩
          · rw [List.length_map]; exact Nat.lt_of_le_of_lt Ll (by decide)
          · rw [List.map_append]; rfl
      · replace c : ¬ 10 ≤ x := of_decide_eq_false c
        rw [if_pos (by omega), List.append_nil] at eL
        subst eL
        refine ⟨_, rfl, D, _, rfl, SqL.of hL, fun p hp => ?_⟩
        refine k _ _ (Same.trans sH (Same.new hp)) (sH.free hp) ?_
        rw [upd_same, ← List.map_reverse]
        unfold rvI
        rw [List.reverse_reverse]
def sp_digits_behind_point : Sp := fun vs H Q _ => ∃ (rest : Int) (n k : Nat) (ρ : Int), vs = [.int rest, .int (2 ^ n)] ∧ (n ≤ 1074 ∧ Left n rest k ρ) ∧ ∀ (H' : Hp) (p : Addr), Same H H' → H p = none → H' p = some (.lst ((pdI k (ρ * 5 ^ k)).map V.int)) → Q (.ref p) H'
theorem bd_digits_behind_point (T : Txt K mg) : Binds K T.fd_digits_behind_point ["rest", "bottom"] [] := T.F_digits_behind_point.binds (ps := ["rest", "bottom"]) fun _ _ _ _ _ _ us hl => match us, hl with | [_, _], _ => rfl
theorem ok_digits_behind_point (T : Txt K mg) : FnOk P w K mg base CX0 1 T.f_digits_behind_point T.fd_digits_behind_point ["rest", "bottom"] sp_digits_behind_point := by
  refine T.F_digits_behind_point.ok sc_digits_behind_point (fun vs H Q E h => ?_) (fun cdv A outer s H vs Q E hr h => ?_)
  · obtain ⟨r, n, k, ρ, rfl, _⟩ := h
    rfl
  · obtain ⟨rest, n, k, ρ, rfl, ⟨hn, hl⟩, kk⟩ := h
    refine ⟨_, (pss_cons (ps_set (i := 2) sc_digits_behind_point.nd rfl (Or.inl rfl) (pe_lst pa_nil))
      (pss_cons (ps_while PassesOwn.never (pt_cmpR op_gt (pv 0) pe_int (nomark _)) (pss_cons (ps_expr (pe_bm PySem.F.plainAttrs_list PySem.F.slot_list_append PySem.F.type_list_append mt_append (pv 2) (pa_cons (pe_op op_add (pe_globE rfl T.c_NOUGHT) (pe_op op_fdivB (pe_op op_mulB (pv 0) pe_int) (pv 1))) pa_nil)))
      (pss_one (ps_set (i := 0) sc_digits_behind_point.nd rfl (Or.inl rfl) (pe_op op_mod (pe_op op_mulB (pv 0) pe_int) (pv 1))))))
      (pss_one (ps_ret (pv 2))))), ?_⟩
    refine ⟨(by show 0 ≤ sizeLine; decide), fun D hD => ?_⟩
    have bp := My.pow2_pos n
    have bs : Sz 1075 ((2 : Int) ^ n) := Sz.two n (by omega)
    refine ⟨fun m σ' H' => ∃ (x : Int) (j : Nat) (z : Int) (L : List Int), σ' = [some (.int x), some (.int (2 ^ n)), some (.ref D)] ∧ H' D = some (.lst (L.map V.int)) ∧ Same H H' ∧ Left n x j z ∧ L ++ pdI j (z * 5 ^ j) = pdI k (ρ * 5 ^ k) ∧ j = m, ⟨_, rest, k, ρ, [], rfl, upd_same, Same.new hD, hl, rfl, rfl⟩, ?_⟩
    rintro m σ' H' ⟨x, j, z, L, rfl, hL, sH, hj, eL, rfl⟩
    have Ll : L.length ≤ 1074 := by
      have h1 := congrArg List.length eL
      rw [List.length_append, pdI_len, pdI_len] at h1
      have := hl.1
      omega
    refine ⟨_, rfl, _, _, rfl, rfl, _, rfl, ?_⟩
    refine iteB (fun c => ?_) (fun c => ?_)
    · replace c : 0 < x := of_decide_eq_true c
      obtain ⟨m, rfl⟩ : ∃ m, j = m + 1 := ⟨j - 1, by have := hj.pos.mp c; omega⟩
      obtain ⟨s1, s2, s3, s4⟩ := hj.step
      have xs : Sz 1075 x := by
        obtain ⟨a1, a2, _⟩ := hj
        refine bs.of_le ?_
        have : x < 2 ^ n := by
          rw [a2]
          have e : (2 : Int) ^ n = 2 ^ (m + 1) * 2 ^ (n - (m + 1)) := by rw [← Int.pow_add]; congr 1; omega
          rw [e]
          exact Int.mul_lt_mul_of_pos_right s2 (My.pow2_pos _)
        omega
      refine ⟨fun σ'' H'' => σ'' = [some (.int (x * 10 % 2 ^ n)), some (.int (2 ^ n)), some (.ref D)] ∧ H'' = upd H' D (.lst ((L ++ [48 + x * 10 / 2 ^ n]).map V.int)), ?_, ?_⟩
      · rintro σ'' H'' ⟨rfl, rfl⟩
        refine ⟨m, by omega, _, m, _, L ++ [48 + x * 10 / 2 ^ n], rfl, upd_same, fun b o e => ?_, s4, ?_, rfl⟩
        · rw [upd_ne (ne_of_none e hD)]; exact sH b o e
        · rw [← eL, pdI_step s1 s2, s3, List.append_assoc]; rfl
      · refine ⟨_, rfl, .inl ⟨rfl, _, SqL.of hL⟩, _, rfl, _, _, rfl, rfl, cmul xs (n := 4) (by decide), _, rfl, _, _, rfl, rfl, cdiv bp bs, _, _, rfl, rfl, D, _, _, rfl, rfl, hL, ?_, ?_⟩
        · rw [List.length_map]; exact Nat.lt_of_le_of_lt Ll (by decide)
        · refine ⟨_, rfl, _, _, rfl, rfl, cmul xs (n := 4) (by decide), _, rfl, _, _, rfl, rfl, bp, rfl, ?_⟩
          rw [List.map_append]; rfl
    · replace c : ¬ 0 < x := of_decide_eq_false c
      have j0 : j = 0 := by
        refine Nat.eq_zero_of_not_pos fun z => c (hj.pos.mpr z)
      subst j0
      rw [pdI_zero, List.append_nil] at eL
      subst eL
      exact ⟨_, rfl, kk _ _ sH hD hL⟩
def sp_written (C : Addr) : Sp := fun vs H Q _ => ∃ (x_p : Addr) (t : Int) (n : Nat), vs = [.ref x_p] ∧ RatAt C H x_p t (2 ^ n) ∧ (n ≤ 1074 ∧ Sz 1075 t) ∧ ∀ (H' : Hp) (p : Addr), Same H H' → H' p = some (.lst ((bI (Sh.inFull ((t : Rat) / ((2 ^ n : Int) : Rat)))).map V.int)) → (bI (Sh.inFull ((t : Rat) / ((2 ^ n : Int) : Rat)))).length ≤ 5000 → Q (.ref p) H'
theorem bd_written (T : Txt K mg) : Binds K T.fd_written ["x"] [] := T.F_written.binds (ps := ["x"]) fun _ _ _ _ _ _ us hl => match us, hl with | [_], _ => rfl
theorem ok_written (T : Txt K mg) : FnOk P w K mg base CX0 2 T.f_written T.fd_written ["x"] (sp_written T.a_Ratio) := by
  refine T.F_written.ok sc_written (fun vs H Q E h => ?_) (fun cdv A outer s H vs Q E hr h => ?_)
  · obtain ⟨x_p, t, n, rfl, _⟩ := h
    rfl
  · obtain ⟨x_p, t, n, rfl, hx, ⟨hn, ts⟩, k⟩ := h
    have bp := My.pow2_pos n
    have bs : Sz 1075 ((2 : Int) ^ n) := Sz.two n (by omega)
    obtain ⟨kk, ρ, hl, ef⟩ := full_is (t := t) hn
    have ab : absI t = (t.natAbs : Int) := absI_natAbs t
    have d0 : 0 ≤ absI t / 2 ^ n := Int.ediv_nonneg (abs_nn t) (Int.le_of_lt bp)
    have ds : Sz 2000 (absI t / 2 ^ n) := (ts.abs.of_le (ediv_le_abs bp (abs_nn t))).mono (by decide)
    have dl : (dgI (absI t / 2 ^ n)).length ≤ 2001 := dgI_len 2000 d0 (sz_lt ds)
    have dl2 : (dgI ((if t < 0 then -t else t) / 2 ^ n)).length ≤ 2001 := dl
    have pl : (pdI kk (ρ * 5 ^ kk)).length ≤ 1074 := by rw [pdI_len]; have := hl.1; omega
    have sl : ∀ m : Nat, m ≤ 5000 → m ≤ sizeLine := fun m h => Nat.le_trans h (by decide)
    -- what comes behind the sign
    have rest : ∀ (H1 : Hp) (D : Addr) (sg : List Int), sg.length ≤ 1 → Same H H1 → H D = none → H1 D = some (.lst (sg.map V.int)) → sg = (if t < 0 then [45] else []) →
        (∀ (H' : Hp) (p2 : Addr), Same H1 H' → H1 p2 = none → H' p2 = some (.lst ((dgI (absI t / 2 ^ n)).map V.int)) →
          ∀ (H3 : Hp) (p3 : Addr), Same (upd H' D (.lst ((sg ++ dgI (absI t / 2 ^ n)).map V.int))) H3 → H3 p3 = some (.lst ((pdI kk (ρ * 5 ^ kk)).map V.int)) →
            (kk = 0 → Q (.ref D) H3) ∧ (¬ kk = 0 → ∀ p4, H3 p4 = none → ∀ p5, (upd H3 p4 (.lst ([46].map V.int))) p5 = none → Q (.ref D) (upd (upd (upd H3 p4 (.lst ([46].map V.int))) p5 (.lst (([46] ++ pdI kk (ρ * 5 ^ kk)).map V.int))) D (.lst (((sg ++ dgI (absI t / 2 ^ n)) ++ ([46] ++ pdI kk (ρ * 5 ^ kk))).map V.int))))) := by
      intro H1 D sg sgl s1 hD h1 esg H' p2 s2 f2 h2 H3 p3 s3 h3
      have hD' : H' D = some (.lst (sg.map V.int)) := s2 _ _ h1
      have s13 : Same H (upd H' D (.lst ((sg ++ dgI (absI t / 2 ^ n)).map V.int))) := fun b o e => by
        rw [upd_ne (ne_of_none e hD)]; exact s2 _ _ (s1 _ _ e)
      have hD3 : H3 D = some (.lst ((sg ++ dgI (absI t / 2 ^ n)).map V.int)) := s3 _ _ upd_same
      rw [← ab, ← esg] at ef
      constructor
      · intro z
        rw [if_pos z, List.append_nil] at ef
        refine k _ _ (Same.trans s13 s3) ?_ ?_
        · rw [ef]; exact hD3
        · rw [ef, List.length_append]; omega
      · intro z p4 hp4 p5 hp5
        rw [if_neg z, ← List.append_assoc] at ef
        refine k _ _ (fun b o e => ?_) ?_ ?_
        · rw [upd_ne (ne_of_none e hD)]
          exact Same.new hp5 _ _ (Same.new hp4 _ _ (s3 _ _ (s13 _ _ e)))
        · rw [ef]; exact upd_same
        · rw [ef, List.length_append, List.length_append, List.length_cons]; omega
    have go : ∀ (H1 : Hp) (D : Addr) (sg : List Int), sg.length ≤ 1 → Same H H1 → H D = none → H1 D = some (.lst (sg.map V.int)) → sg = (if t < 0 then [45] else []) → True := fun _ _ _ _ _ _ _ _ => trivial
    refine ⟨_, (pss_cons (ps_set (i := 1) sc_written.nd rfl (Or.inl rfl) (pe_callB call_abs (by rfl) T.n_abs (by decide +kernel) (pa_cons (pe_fld (pv 0) rfl) pa_nil)))
      (pss_cons (ps_set (i := 2) sc_written.nd rfl (Or.inl rfl) (pe_ifExp (pt_cmpR op_lt (pe_fld (pv 0) rfl) pe_int (nomark _)) (pe_lst (pa_cons (pe_globE rfl T.c_MINUS) pa_nil)) (pe_lst pa_nil)))
      (pss_cons (ps_aug (i := 2) sc_written.nd rfl (Or.inl rfl) (pe_call (ok_digits_of T) (hr.mono (by decide)) rfl T.m_digits_of T.F_digits_of.kp (bd_digits_of T) .nil pass0 (pa_cons (pe_op op_fdivB (pv 1) (pe_fld (pv 0) rfl)) pa_nil)) (pip_of iop_cat))
      (pss_cons (ps_set (i := 3) sc_written.nd rfl (Or.inl rfl) (pe_call (ok_digits_behind_point T) (hr.mono (by decide)) rfl T.m_digits_behind_point T.F_digits_behind_point.kp (bd_digits_behind_point T) .nil pass0 (pa_cons (pe_op op_mod (pv 1) (pe_fld (pv 0) rfl)) (pa_cons (pe_fld (pv 0) rfl) pa_nil))))
      (pss_cons (ps_if (pt_cmpR op_gt (pe_callB call_len_seq (by rfl) T.n_len (by decide +kernel) (pa_cons (pv 3) pa_nil)) pe_int (nomark _)) (pss_one (ps_aug (i := 2) sc_written.nd rfl (Or.inl rfl) (pe_op op_cat (pe_lst (pa_cons (pe_globE rfl T.c_POINT) pa_nil)) (pv 3)) (pip_of iop_cat))) pss_nil)
      (pss_one (ps_ret (pv 2)))))))), ?_⟩
    refine ⟨_, rfl, fld_top hx T.cl_Ratio T.na_Ratio_top ?_⟩
    refine ⟨_, rfl, ?_⟩
    refine ⟨_, rfl, fld_top hx T.cl_Ratio T.na_Ratio_top ?_⟩
    refine ⟨_, _, rfl, rfl, _, rfl, ?_⟩
    refine iteB (fun c => ?_) (fun c => ?_)
    · replace c : t < 0 := of_decide_eq_true c
      refine ⟨(by show 1 ≤ sizeLine; decide), fun D hD => ?_⟩
      have S1 : Same H (upd H D (.lst [V.int 45])) := Same.new hD
      have hS1 : (upd H D (.lst [V.int 45])) D = some (.lst (([45]).map V.int)) := upd_same
      have hx1 := RatAt.keep S1 hx
      refine ⟨_, rfl, _, rfl, _, rfl, fld_bottom hx1 T.cl_Ratio T.na_Ratio_bottom ?_⟩
      refine ⟨_, _, rfl, rfl, cdiv bp bs, _, rfl, ⟨d0, ds⟩, fun H2 p2 s2 f2 h2 => ?_⟩
      refine ⟨_, _, _, _, rfl, rfl, s2 _ _ hS1, h2, ?_, ?_⟩
      · rw [List.length_map, List.length_map]; exact sl _ (by simp only [List.length_cons, List.length_nil]; omega)
      have R := rest _ D ([45]) (by simp) S1 hD hS1 (by rw [if_pos c]) H2 p2 s2 f2 h2
      have hD2 : H2 D = some (.lst (([45]).map V.int)) := s2 _ _ hS1
      have e2 : ([45]).map V.int ++ (dgI (absI t / 2 ^ n)).map V.int = (([45]) ++ dgI (absI t / 2 ^ n)).map V.int := by rw [List.map_append]
      have hx2 : RatAt T.a_Ratio (upd H2 D (.lst (([45]).map V.int ++ (dgI (absI t / 2 ^ n)).map V.int))) x_p t (2 ^ n) := by
        obtain ⟨dx, hx⟩ := hx
        exact ⟨dx, by rw [upd_ne (ne_of_none hx hD)]; exact s2 _ _ (S1 _ _ hx)⟩
      refine ⟨_, rfl, _, rfl, fld_bottom hx2 T.cl_Ratio T.na_Ratio_bottom ?_⟩
      refine ⟨_, _, rfl, rfl, bp, _, rfl, fld_bottom hx2 T.cl_Ratio T.na_Ratio_bottom ?_⟩
      rw [e2]
      refine ⟨absI t % 2 ^ n, n, kk, ρ, rfl, ⟨hn, by rw [ab]; exact hl⟩, fun H3 p3 s3 f3 h3 => ?_⟩
      obtain ⟨R1, R2⟩ := R H3 p3 s3 h3
      refine ⟨_, rfl, _, _, rfl, .inl (SqL.of h3), _, _, rfl, rfl, _, rfl, ?_⟩
      refine iteB (fun c2 => ?_) (fun c2 => ?_)
      · replace c2 : ¬ kk = 0 := by
          have := of_decide_eq_true c2
          rw [List.length_map, pdI_len] at this
          omega
        refine ⟨_, rfl, (by show 1 ≤ sizeLine; decide), fun p4 hp4 => ?_⟩
        refine ⟨_, rfl, _, _, _, _, rfl, rfl, upd_same, Same.new hp4 _ _ h3, ?_, fun p5 hp5 => ?_⟩
        · rw [List.length_map]; exact sl _ (by simp only [List.length_cons, List.length_nil]; omega)
        · refine ⟨D, _, _, _, rfl, rfl, Same.new hp5 _ _ (Same.new hp4 _ _ (s3 _ _ upd_same)), upd_same, ?_, ?_⟩
          · refine sl _ ?_
            simp only [List.length_map, List.length_append, List.length_cons, List.length_nil]
            omega
          · refine ⟨_, rfl, ?_⟩
            have := R2 c2 p4 hp4 p5 hp5
            rw [List.map_append (l₁ := ([45]) ++ _)] at this
            exact this
      · replace c2 : kk = 0 := by
          have := of_decide_eq_false c2
          rw [List.length_map, pdI_len] at this
          omega
        exact ⟨_, rfl, R1 c2⟩
    · replace c : ¬ t < 0 := of_decide_eq_false c
      refine ⟨(by show 0 ≤ sizeLine; decide), fun D hD => ?_⟩
      have S1 : Same H (upd H D (.lst [])) := Same.new hD
      have hS1 : (upd H D (.lst [])) D = some (.lst ((([] : List Int)).map V.int)) := upd_same
      have hx1 := RatAt.keep S1 hx
      refine ⟨_, rfl, _, rfl, _, rfl, fld_bottom hx1 T.cl_Ratio T.na_Ratio_bottom ?_⟩
      refine ⟨_, _, rfl, rfl, cdiv bp bs, _, rfl, ⟨d0, ds⟩, fun H2 p2 s2 f2 h2 => ?_⟩
      refine ⟨_, _, _, _, rfl, rfl, s2 _ _ hS1, h2, ?_, ?_⟩
      · rw [List.length_map, List.length_map]; exact sl _ (by simp only [List.length_cons, List.length_nil]; omega)
      have R := rest _ D (([] : List Int)) (by simp) S1 hD hS1 (by rw [if_neg c]) H2 p2 s2 f2 h2
      have hD2 : H2 D = some (.lst ((([] : List Int)).map V.int)) := s2 _ _ hS1
      have e2 : (([] : List Int)).map V.int ++ (dgI (absI t / 2 ^ n)).map V.int = ((([] : List Int)) ++ dgI (absI t / 2 ^ n)).map V.int := by rw [List.map_append]
      have hx2 : RatAt T.a_Ratio (upd H2 D (.lst ((([] : List Int)).map V.int ++ (dgI (absI t / 2 ^ n)).map V.int))) x_p t (2 ^ n) := by
        obtain ⟨dx, hx⟩ := hx
        exact ⟨dx, by rw [upd_ne (ne_of_none hx hD)]; exact s2 _ _ (S1 _ _ hx)⟩
      refine ⟨_, rfl, _, rfl, fld_bottom hx2 T.cl_Ratio T.na_Ratio_bottom ?_⟩
      refine ⟨_, _, rfl, rfl, bp, _, rfl, fld_bottom hx2 T.cl_Ratio T.na_Ratio_bottom ?_⟩
      rw [e2]
      refine ⟨absI t % 2 ^ n, n, kk, ρ, rfl, ⟨hn, by rw [ab]; exact hl⟩, fun H3 p3 s3 f3 h3 => ?_⟩
      obtain ⟨R1, R2⟩ := R H3 p3 s3 h3
      refine ⟨_, rfl, _, _, rfl, .inl (SqL.of h3), _, _, rfl, rfl, _, rfl, ?_⟩
      refine iteB (fun c2 => ?_) (fun c2 => ?_)
      · replace c2 : ¬ kk = 0 := by
          have := of_decide_eq_true c2
          rw [List.length_map, pdI_len] at this
          omega
        refine ⟨_, rfl, (by show 1 ≤ sizeLine; decide), fun p4 hp4 => ?_⟩
        refine ⟨_, rfl, _, _, _, _, rfl, rfl, upd_same, Same.new hp4 _ _ h3, ?_, fun p5 hp5 => ?_⟩
        · rw [List.length_map]; exact sl _ (by simp only [List.length_cons, List.length_nil]; omega)
        · refine ⟨D, _, _, _, rfl, rfl, Same.new hp5 _ _ (Same.new hp4 _ _ (s3 _ _ upd_same)), upd_same, ?_, ?_⟩
          · refine sl _ ?_
            simp only [List.length_map, List.length_append, List.length_cons, List.length_nil]
            omega
          · refine ⟨_, rfl, ?_⟩
            have := R2 c2 p4 hp4 p5 hp5
            rw [List.map_append (l₁ := (([] : List Int)) ++ _)] at this
            exact this
      · replace c2 : kk = 0 := by
          have := of_decide_eq_false c2
          rw [List.length_map, pdI_len] at this
          omega
        exact ⟨_, rfl, R1 c2⟩
def sp_fits_width : Sp := fun vs H Q _ => ∃ (c : Int) (bits : Int), vs = [.int c, .int bits] ∧ (True) ∧ ∀ H' : Hp, Same H H' → Q (.bl (m_fits_width c bits)) H'
theorem bd_fits_width (T : Txt K mg) : Binds K T.fd_fits_width ["c", "bits"] [] := T.F_fits_width.binds (ps := ["c", "bits"]) fun _ _ _ _ _ _ us hl => match us, hl with | [_, _], _ => rfl
theorem ok_fits_width (T : Txt K mg) : FnOk P w K mg base CX0 2 T.f_fits_width T.fd_fits_width ["c", "bits"] sp_fits_width := by
  refine T.F_fits_width.ok sc_fits_width (fun vs H Q E h => ?_) (fun cdv A outer s H vs Q E hr h => ?_)
  · obtain ⟨c, bits, rfl, _⟩ := h
    rfl
  · obtain ⟨c, bits, rfl, hpre, k⟩ := h
    refine ⟨_, (pss_one (ps_ret (pe_chain op_le op_lt pe_int (pv 1) (pe_op op_shlB pe_int (pe_call (ok_width_of T) (hr.mono (by decide)) rfl T.m_width_of T.F_width_of.kp (bd_width_of T) .nil pass0 (pa_cons (pv 0) pa_nil)))))), ?_⟩
    refine ⟨_, rfl, _, _, rfl, rfl, _, rfl, ?_⟩
    refine iteB (fun c_1 => ?_) (fun c_1 => ?_)
    · replace c_1 : ((0) ≤ bits) := of_decide_eq_true c_1
      refine ⟨_, rfl, _, rfl, trivial, fun H_2 s_3 => ?_⟩
      refine ⟨_, _, rfl, rfl, cshl (width_nn c) (m := 1) (by decide) (by have := width_lt c; omega), _, _, rfl, rfl, ?_⟩
      exact leaf k s_3 (congrArg V.bl (by unfold m_fits_width; rw [if_pos c_1]; try rfl))
    · replace c_1 : ¬ ((0) ≤ bits) := of_decide_eq_false c_1
      exact leaf k Same.refl2 (congrArg V.bl (by unfold m_fits_width; rw [if_neg c_1]; try rfl))
def sp_is_good : Sp := fun vs H Q _ => ∃ (c : Int) (r : Int), vs = [.int c, .int r] ∧ (m_is_format c = true) ∧ ∀ H' : Hp, Same H H' → Q (.bl (m_is_good c r)) H'
theorem bd_is_good (T : Txt K mg) : Binds K T.fd_is_good ["c", "r"] [] := T.F_is_good.binds (ps := ["c", "r"]) fun _ _ _ _ _ _ us hl => match us, hl with | [_, _], _ => rfl
theorem ok_is_good (T : Txt K mg) : FnOk P w K mg base CX0 4 T.f_is_good T.fd_is_good ["c", "r"] sp_is_good := by
  refine T.F_is_good.ok sc_is_good (fun vs H Q E h => ?_) (fun cdv A outer s H vs Q E hr h => ?_)
  · obtain ⟨c, r, rfl, _⟩ := h
    rfl
  · obtain ⟨c, r, rfl, hpre, k⟩ := h
    refine ⟨_, (pss_cons (ps_if (pt_not (pt_val (pe_call (ok_fits_width T) (hr.mono (by decide)) rfl T.m_fits_width T.F_fits_width.kp (bd_fits_width T) .nil pass0 (pa_cons (pv 0) (pa_cons (pv 1) pa_nil))))) (pss_one (ps_ret pe_bl)) pss_nil)
      (pss_cons (ps_set (i := 2) sc_is_good.nd rfl (Or.inl rfl) (pe_call (ok_kind_of T) (hr.mono (by decide)) rfl T.m_kind_of T.F_kind_of.kp (bd_kind_of T) .nil pass0 (pa_cons (pv 0) pa_nil)))
      (pss_cons (ps_if (pt_cmpR op_eqI (pv 2) (pe_globE rfl T.c_TRUTH) (nomark _)) (pss_one (ps_ret (pe_cmpR op_le (pv 1) pe_int (nomark _)))) pss_nil)
      (pss_cons (ps_if (pt_cmpR op_eqI (pv 2) (pe_globE rfl T.c_FLOAT) (nomark _)) (pss_one (ps_ret (pe_and (pe_cmpR op_neI (pv 1) (pe_call (ok_sign_bit T) (hr.mono (by decide)) rfl T.m_sign_bit T.F_sign_bit.kp (bd_sign_bit T) .nil pass0 (pa_cons (pv 0) pa_nil)) (nomark _)) (pe_one (pe_cmpR op_lt (pe_op op_mod (pv 1) (pe_call (ok_sign_bit T) (hr.mono (by decide)) rfl T.m_sign_bit T.F_sign_bit.kp (bd_sign_bit T) .nil pass0 (pa_cons (pv 0) pa_nil))) (pe_call (ok_infinity_raw T) (hr.mono (by decide)) rfl T.m_infinity_raw T.F_infinity_raw.kp (bd_infinity_raw T) .nil pass0 (pa_cons (pv 0) pa_nil)) (nomark _)))))) pss_nil)
      (pss_one (ps_ret pe_bl)))))), ?_⟩
    refine ⟨_, rfl, _, rfl, _, _, rfl, trivial, fun H_1 s_2 => ?_⟩
    refine ⟨_, rfl, ?_⟩
    refine iteB (fun c_3 => ?_) (fun c_3 => ?_)
    · replace c_3 : ¬ ((m_fits_width c r) = true) := ne_true_of_eq_false (not_t c_3)
      exact leaf k s_2 (congrArg V.bl (by unfold m_is_good; rw [if_neg c_3]; try rfl))
    · replace c_3 : ((m_fits_width c r) = true) := (not_f c_3)
      refine ⟨_, rfl, _, rfl, trivial, fun H_4 s_5 => ?_⟩
      refine ⟨_, rfl, _, _, rfl, rfl, _, rfl, ?_⟩
      refine iteB (fun c_6 => ?_) (fun c_6 => ?_)
      · replace c_6 : ((m_kind_of c) = (0)) := of_decide_eq_true c_6
        refine ⟨_, rfl, _, _, rfl, rfl, ?_⟩
        exact leaf k (Same.trans s_2 s_5) (congrArg V.bl (by unfold m_is_good; rw [if_pos c_3, if_pos c_6]; try rfl))
      · replace c_6 : ¬ ((m_kind_of c) = (0)) := of_decide_eq_false c_6
        refine ⟨_, rfl, _, _, rfl, rfl, _, rfl, ?_⟩
        refine iteB (fun c_7 => ?_) (fun c_7 => ?_)
        · replace c_7 : ((m_kind_of c) = (3)) := of_decide_eq_true c_7
          refine ⟨_, rfl, _, rfl, _, rfl, (isf_pos hpre), fun H_8 s_9 => ?_⟩
          refine ⟨_, _, rfl, rfl, _, rfl, ?_⟩
          refine iteB (fun c_10 => ?_) (fun c_10 => ?_)
          · replace c_10 : (¬ r = (m_sign_bit c)) := of_decide_eq_true c_10
            refine ⟨_, rfl, _, rfl, _, rfl, (isf_pos hpre), fun H_11 s_12 => ?_⟩
            refine ⟨_, _, rfl, rfl, (sign_pos c), _, rfl, _, rfl, (isf_float hpre (by assumption)), fun H_13 s_14 => ?_⟩
            refine ⟨_, _, rfl, rfl, ?_⟩
            exact leaf k (Same.trans (Same.trans (Same.trans (Same.trans s_2 s_5) s_9) s_12) s_14) (congrArg V.bl (by unfold m_is_good; rw [if_pos c_3, if_neg c_6, if_pos c_7, if_pos c_10]; try rfl))
          · replace c_10 : ¬ (¬ r = (m_sign_bit c)) := of_decide_eq_false c_10
            exact leaf k (Same.trans (Same.trans s_2 s_5) s_9) (congrArg V.bl (by unfold m_is_good; rw [if_pos c_3, if_neg c_6, if_pos c_7, if_neg c_10]; try rfl))
        · replace c_7 : ¬ ((m_kind_of c) = (3)) := of_decide_eq_false c_7
          exact leaf k (Same.trans s_2 s_5) (congrArg V.bl (by unfold m_is_good; rw [if_pos c_3, if_neg c_6, if_neg c_7]; try rfl))
def sp_is_raw : Sp := fun vs H Q _ => ∃ (c : Int) (r : Int), vs = [.int c, .int r] ∧ (True) ∧ ∀ H' : Hp, Same H H' → Q (.bl (m_is_raw c r)) H'
theorem bd_is_raw (T : Txt K mg) : Binds K T.fd_is_raw ["c", "r"] [] := T.F_is_raw.binds (ps := ["c", "r"]) fun _ _ _ _ _ _ us hl => match us, hl with | [_, _], _ => rfl
theorem ok_is_raw (T : Txt K mg) : FnOk P w K mg base CX0 5 T.f_is_raw T.fd_is_raw ["c", "r"] sp_is_raw := by
  refine T.F_is_raw.ok sc_is_raw (fun vs H Q E h => ?_) (fun cdv A outer s H vs Q E hr h => ?_)
  · obtain ⟨c, r, rfl, _⟩ := h
    rfl
  · obtain ⟨c, r, rfl, hpre, k⟩ := h
    refine ⟨_, (pss_one (ps_ret (pe_and (pe_call (ok_is_format T) (hr.mono (by decide)) rfl T.m_is_format T.F_is_format.kp (bd_is_format T) .nil pass0 (pa_cons (pv 0) pa_nil)) (pe_one (pe_call (ok_is_good T) (hr.mono (by decide)) rfl T.m_is_good T.F_is_good.kp (bd_is_good T) .nil pass0 (pa_cons (pv 0) (pa_cons (pv 1) pa_nil))))))), ?_⟩
    refine ⟨_, rfl, _, rfl, trivial, fun H_1 s_2 => ?_⟩
    refine ⟨_, rfl, ?_⟩
    refine iteB (fun c_3 => ?_) (fun c_3 => ?_)
    · replace c_3 : ((m_is_format c) = true) := c_3
      refine ⟨_, rfl, _, rfl, _, _, rfl, (by assumption), fun H_4 s_5 => ?_⟩
      exact leaf k (Same.trans s_2 s_5) (congrArg V.bl (by unfold m_is_raw; rw [if_pos c_3]; try rfl))
    · replace c_3 : ¬ ((m_is_format c) = true) := ne_true_of_eq_false c_3
      exact leaf k s_2 (congrArg V.bl (by unfold m_is_raw; rw [if_neg c_3]; try rfl))
def sp_steps_of : Sp := fun vs H Q _ => ∃ (c : Int) (r : Int), vs = [.int c, .int r] ∧ (m_is_format c = true) ∧ ∀ H' : Hp, Same H H' → Q (.int (m_steps_of c r)) H'
theorem bd_steps_of (T : Txt K mg) : Binds K T.fd_steps_of ["c", "r"] [] := T.F_steps_of.binds (ps := ["c", "r"]) fun _ _ _ _ _ _ us hl => match us, hl with | [_, _], _ => rfl
theorem ok_steps_of (T : Txt K mg) : FnOk P w K mg base CX0 3 T.f_steps_of T.fd_steps_of ["c", "r"] sp_steps_of := by
  refine T.F_steps_of.ok sc_steps_of (fun vs H Q E h => ?_) (fun cdv A outer s H vs Q E hr h => ?_)
  · obtain ⟨c, r, rfl, _⟩ := h
    rfl
  · obtain ⟨c, r, rfl, hpre, k⟩ := h
    refine ⟨_, (pss_cons (ps_if (PW.pt (pw_and (pt_cmpR op_eqI (pe_call (ok_kind_of T) (hr.mono (by decide)) rfl T.m_kind_of T.F_kind_of.kp (bd_kind_of T) .nil pass0 (pa_cons (pv 0) pa_nil)) (pe_globE rfl T.c_SIGNED) (nomark _)) (pw_and1 (pt_cmpR op_ge (pv 1) (pe_call (ok_sign_bit T) (hr.mono (by decide)) rfl T.m_sign_bit T.F_sign_bit.kp (bd_sign_bit T) .nil pass0 (pa_cons (pv 0) pa_nil)) (nomark _))))) (pss_one (ps_ret (pe_op op_sub (pv 1) (pe_op op_shlB pe_int (pe_call (ok_width_of T) (hr.mono (by decide)) rfl T.m_width_of T.F_width_of.kp (bd_width_of T) .nil pass0 (pa_cons (pv 0) pa_nil)))))) pss_nil)
      (pss_one (ps_ret (pv 1)))), ?_⟩
    refine ⟨_, rfl, _, rfl, trivial, fun H_1 s_2 => ?_⟩
    refine ⟨_, _, rfl, rfl, _, rfl, ?_⟩
    refine iteB (fun c_3 => ?_) (fun c_3 => ?_)
    · replace c_3 : ((m_kind_of c) = (1)) := of_decide_eq_true c_3
      refine ⟨_, rfl, _, rfl, _, rfl, (isf_pos hpre), fun H_4 s_5 => ?_⟩
      refine ⟨_, _, rfl, rfl, _, rfl, ?_⟩
      refine iteB (fun c_6 => ?_) (fun c_6 => ?_)
      · replace c_6 : ((m_sign_bit c) ≤ r) := of_decide_eq_true c_6
        refine ⟨_, rfl, _, rfl, _, rfl, trivial, fun H_7 s_8 => ?_⟩
        refine ⟨_, _, rfl, rfl, cshl (width_nn c) (m := 1) (by decide) (by have := width_lt c; omega), _, _, rfl, rfl, ?_⟩
        exact leaf k (Same.trans (Same.trans s_2 s_5) s_8) (congrArg V.int (by unfold m_steps_of; rw [if_pos c_3, if_pos c_6]; try rfl))
      · replace c_6 : ¬ ((m_sign_bit c) ≤ r) := of_decide_eq_false c_6
        refine ⟨_, rfl, ?_⟩
        exact leaf k (Same.trans s_2 s_5) (congrArg V.int (by unfold m_steps_of; rw [if_pos c_3, if_neg c_6]; try rfl))
    · replace c_3 : ¬ ((m_kind_of c) = (1)) := of_decide_eq_false c_3
      refine iteF ?_
      refine ⟨_, rfl, ?_⟩
      exact leaf k s_2 (congrArg V.int (by unfold m_steps_of; rw [if_neg c_3]; try rfl))
def sp_float_worth (C : Addr) : Sp := fun vs H Q _ => ∃ (c : Int) (r : Int), vs = [.int c, .int r] ∧ (m_is_format c = true ∧ m_kind_of c = 3) ∧ ∀ (H' : Hp) (p : Addr), Same H H' → RatAt C H' p (m_float_worth c r).1 (m_float_worth c r).2 → Q (.ref p) H'
theorem bd_float_worth (T : Txt K mg) : Binds K T.fd_float_worth ["c", "r"] [] := T.F_float_worth.binds (ps := ["c", "r"]) fun _ _ _ _ _ _ us hl => match us, hl with | [_, _], _ => rfl
theorem ok_float_worth (T : Txt K mg) : FnOk P w K mg base CX0 3 T.f_float_worth T.fd_float_worth ["c", "r"] (sp_float_worth T.a_Ratio) := by
  refine T.F_float_worth.ok sc_float_worth (fun vs H Q E h => ?_) (fun cdv A outer s H vs Q E hr h => ?_)
  · obtain ⟨c, r, rfl, _⟩ := h
    rfl
  · obtain ⟨c, r, rfl, hpre, k⟩ := h
    have W := isf_float hpre.1 hpre.2
    have fb := fbits W
    have lp := lplaces W
    have xl := expo_lt r W
    refine ⟨_, (pss_cons (ps_set (i := 2) sc_float_worth.nd rfl (Or.inl rfl) (pe_op op_mod (pv 1) (pe_call (ok_sign_bit T) (hr.mono (by decide)) rfl T.m_sign_bit T.F_sign_bit.kp (bd_sign_bit T) .nil pass0 (pa_cons (pv 0) pa_nil))))
      (pss_cons (ps_set (i := 3) sc_float_worth.nd rfl (Or.inl rfl) (pe_dgetK (hu_of hr) (pe_globE rfl T.c_FRACTION_BITS) (pe_call (ok_width_of T) (hr.mono (by decide)) rfl T.m_width_of T.F_width_of.kp (bd_width_of T) .nil pass0 (pa_cons (pv 0) pa_nil)) (fun _ _ => rfl)))
      (pss_cons (ps_set (i := 4) sc_float_worth.nd rfl (Or.inl rfl) (pe_op op_mod (pv 2) (pe_op op_shlB pe_int (pv 3))))
      (pss_cons (ps_set (i := 5) sc_float_worth.nd rfl (Or.inl rfl) (pe_un un_neg (pe_dgetK (hu_of hr) (pe_globE rfl T.c_LOWEST_PLACES) (pe_call (ok_width_of T) (hr.mono (by decide)) rfl T.m_width_of T.F_width_of.kp (bd_width_of T) .nil pass0 (pa_cons (pv 0) pa_nil)) (fun _ _ => rfl))))
      (pss_cons (ps_set (i := 6) sc_float_worth.nd rfl (Or.inl rfl) (pe_op op_shr (pv 2) (pv 3)))
      (pss_cons (ps_if (pt_cmpR op_gt (pv 6) pe_int (nomark _)) (pss_cons (ps_aug (i := 4) sc_float_worth.nd rfl (Or.inl rfl) (pe_op op_shlB pe_int (pv 3)) (pip_of iop_add))
      (pss_one (ps_aug (i := 5) sc_float_worth.nd rfl (Or.inl rfl) (pe_op op_sub (pv 6) pe_int) (pip_of iop_add)))) pss_nil)
      (pss_cons (ps_if (pt_cmpR op_gt (pv 1) (pv 2) (nomark _)) (pss_one (ps_set (i := 4) sc_float_worth.nd rfl (Or.inl rfl) (pe_un un_neg (pv 4)))) pss_nil)
      (pss_cons (ps_if (pt_cmpR op_ge (pv 5) pe_int (nomark _)) (pss_one (ps_ret (pe_make T.mk_Ratio (ok_Ratio_init T) (hr.mono (by decide)) rfl T.m_Ratio (bd_Ratio_init T) .nil pass0 (pa_cons (pe_op op_shlB (pv 4) (pv 5)) (pa_cons pe_int pa_nil))))) pss_nil)
      (pss_one (ps_ret (pe_make T.mk_Ratio (ok_Ratio_init T) (hr.mono (by decide)) rfl T.m_Ratio (bd_Ratio_init T) .nil pass0 (pa_cons (pv 4) (pa_cons (pe_op op_shlB pe_int (pe_un un_neg (pv 5))) pa_nil))))))))))))), ?_⟩
    refine ⟨_, rfl, _, rfl, _, rfl, (isf_pos hpre.1), fun H_1 s_2 => ?_⟩
    refine ⟨_, _, rfl, rfl, (sign_pos c), _, rfl, _, rfl, trivial, fun H_3 s_4 => ?_⟩
    refine ⟨T.a_FRACTION_BITS, .int (dictI [(32, 23), (64, 52)] (m_width_of c)), rfl, _, _, T.q_FRACTION_BITS, rfl, (by rcases W with h | h <;> rw [h] <;> rfl), _, rfl, _, rfl, _, _, rfl, rfl, cshl fb.1 (m := 1) (by decide) (by omega), _, _, rfl, rfl, (one_pos _), _, rfl, _, rfl, trivial, fun H_5 s_6 => ?_⟩
    refine ⟨T.a_LOWEST_PLACES, .int (dictI [(32, 149), (64, 1074)] (m_width_of c)), rfl, _, _, T.q_LOWEST_PLACES, rfl, (by rcases W with h | h <;> rw [h] <;> rfl), _, rfl, _, rfl, _, rfl, _, _, rfl, rfl, fb.1, _, rfl, _, _, rfl, rfl, _, rfl, ?_⟩
    refine iteB (fun c_7 => ?_) (fun c_7 => ?_)
    · replace c_7 : ((0) < ((r % (m_sign_bit c)) / 2 ^ ((dictI [(32, 23), (64, 52)] (m_width_of c)) : Int).toNat)) := of_decide_eq_true c_7
      refine ⟨_, rfl, _, rfl, _, _, rfl, rfl, cshl fb.1 (m := 1) (by decide) (by omega), _, _, rfl, rfl, _, rfl, _, rfl, _, _, rfl, rfl, _, _, rfl, rfl, _, rfl, _, rfl, _, _, rfl, rfl, _, rfl, ?_⟩
      refine iteB (fun c_8 => ?_) (fun c_8 => ?_)
      · replace c_8 : ((r % (m_sign_bit c)) < r) := of_decide_eq_true c_8
        refine ⟨_, rfl, _, rfl, _, rfl, _, _, rfl, rfl, _, rfl, ?_⟩
        refine iteB (fun c_9 => ?_) (fun c_9 => ?_)
        · replace c_9 : ((0) ≤ ((-(dictI [(32, 149), (64, 1074)] (m_width_of c))) + (((r % (m_sign_bit c)) / 2 ^ ((dictI [(32, 23), (64, 52)] (m_width_of c)) : Int).toNat) - (1)))) := of_decide_eq_true c_9
          refine ⟨_, rfl, _, rfl, _, _, rfl, rfl, cshl (by assumption) (m := 54) (by first | exact (frac_sz _ W).2.neg | exact (frac_sz _ W).2 | exact (frac_sz _ W).1.neg.mono (by decide) | exact (frac_sz _ W).1.mono (by decide)) (by omega), ?_⟩
          intro p_11 d_14 n_15 n_16 _
          refine ⟨p_11, d_14, _, _, rfl, upd_same, fun H_10 h_13 k_17 => ⟨rfl, ?_⟩⟩
          have s_12 := Same.made n_15 n_16 k_17
          exact leafR (u := (((-(((r % (m_sign_bit c)) % ((1) * 2 ^ ((dictI [(32, 23), (64, 52)] (m_width_of c)) : Int).toNat)) + ((1) * 2 ^ ((dictI [(32, 23), (64, 52)] (m_width_of c)) : Int).toNat))) * 2 ^ (((-(dictI [(32, 149), (64, 1074)] (m_width_of c))) + (((r % (m_sign_bit c)) / 2 ^ ((dictI [(32, 23), (64, 52)] (m_width_of c)) : Int).toNat) - (1))) : Int).toNat), (1))) k (Same.trans (Same.trans (Same.trans s_2 s_4) s_6) s_12) h_13 (by unfold m_float_worth; rw [if_pos c_7, if_pos c_8, if_pos c_9]; try rfl)
        · replace c_9 : ¬ ((0) ≤ ((-(dictI [(32, 149), (64, 1074)] (m_width_of c))) + (((r % (m_sign_bit c)) / 2 ^ ((dictI [(32, 23), (64, 52)] (m_width_of c)) : Int).toNat) - (1)))) := of_decide_eq_false c_9
          refine ⟨_, rfl, _, rfl, _, rfl, _, _, rfl, rfl, cshl (by omega) (m := 1) (by decide) (by omega), ?_⟩
          intro p_19 d_22 n_23 n_24 _
          refine ⟨p_19, d_22, _, _, rfl, upd_same, fun H_18 h_21 k_25 => ⟨rfl, ?_⟩⟩
          have s_20 := Same.made n_23 n_24 k_25
          exact leafR (u := ((-(((r % (m_sign_bit c)) % ((1) * 2 ^ ((dictI [(32, 23), (64, 52)] (m_width_of c)) : Int).toNat)) + ((1) * 2 ^ ((dictI [(32, 23), (64, 52)] (m_width_of c)) : Int).toNat))), ((1) * 2 ^ ((-((-(dictI [(32, 149), (64, 1074)] (m_width_of c))) + (((r % (m_sign_bit c)) / 2 ^ ((dictI [(32, 23), (64, 52)] (m_width_of c)) : Int).toNat) - (1)))) : Int).toNat))) k (Same.trans (Same.trans (Same.trans s_2 s_4) s_6) s_20) h_21 (by unfold m_float_worth; rw [if_pos c_7, if_pos c_8, if_neg c_9]; try rfl)
      · replace c_8 : ¬ ((r % (m_sign_bit c)) < r) := of_decide_eq_false c_8
        refine ⟨_, rfl, _, _, rfl, rfl, _, rfl, ?_⟩
        refine iteB (fun c_26 => ?_) (fun c_26 => ?_)
        · replace c_26 : ((0) ≤ ((-(dictI [(32, 149), (64, 1074)] (m_width_of c))) + (((r % (m_sign_bit c)) / 2 ^ ((dictI [(32, 23), (64, 52)] (m_width_of c)) : Int).toNat) - (1)))) := of_decide_eq_true c_26
          refine ⟨_, rfl, _, rfl, _, _, rfl, rfl, cshl (by assumption) (m := 54) (by first | exact (frac_sz _ W).2.neg | exact (frac_sz _ W).2 | exact (frac_sz _ W).1.neg.mono (by decide) | exact (frac_sz _ W).1.mono (by decide)) (by omega), ?_⟩
          intro p_28 d_31 n_32 n_33 _
          refine ⟨p_28, d_31, _, _, rfl, upd_same, fun H_27 h_30 k_34 => ⟨rfl, ?_⟩⟩
          have s_29 := Same.made n_32 n_33 k_34
          exact leafR (u := (((((r % (m_sign_bit c)) % ((1) * 2 ^ ((dictI [(32, 23), (64, 52)] (m_width_of c)) : Int).toNat)) + ((1) * 2 ^ ((dictI [(32, 23), (64, 52)] (m_width_of c)) : Int).toNat)) * 2 ^ (((-(dictI [(32, 149), (64, 1074)] (m_width_of c))) + (((r % (m_sign_bit c)) / 2 ^ ((dictI [(32, 23), (64, 52)] (m_width_of c)) : Int).toNat) - (1))) : Int).toNat), (1))) k (Same.trans (Same.trans (Same.trans s_2 s_4) s_6) s_29) h_30 (by unfold m_float_worth; rw [if_pos c_7, if_neg c_8, if_pos c_26]; try rfl)
        · replace c_26 : ¬ ((0) ≤ ((-(dictI [(32, 149), (64, 1074)] (m_width_of c))) + (((r % (m_sign_bit c)) / 2 ^ ((dictI [(32, 23), (64, 52)] (m_width_of c)) : Int).toNat) - (1)))) := of_decide_eq_false c_26
          refine ⟨_, rfl, _, rfl, _, rfl, _, _, rfl, rfl, cshl (by omega) (m := 1) (by decide) (by omega), ?_⟩
          intro p_36 d_39 n_40 n_41 _
          refine ⟨p_36, d_39, _, _, rfl, upd_same, fun H_35 h_38 k_42 => ⟨rfl, ?_⟩⟩
          have s_37 := Same.made n_40 n_41 k_42
          exact leafR (u := ((((r % (m_sign_bit c)) % ((1) * 2 ^ ((dictI [(32, 23), (64, 52)] (m_width_of c)) : Int).toNat)) + ((1) * 2 ^ ((dictI [(32, 23), (64, 52)] (m_width_of c)) : Int).toNat)), ((1) * 2 ^ ((-((-(dictI [(32, 149), (64, 1074)] (m_width_of c))) + (((r % (m_sign_bit c)) / 2 ^ ((dictI [(32, 23), (64, 52)] (m_width_of c)) : Int).toNat) - (1)))) : Int).toNat))) k (Same.trans (Same.trans (Same.trans s_2 s_4) s_6) s_37) h_38 (by unfold m_float_worth; rw [if_pos c_7, if_neg c_8, if_neg c_26]; try rfl)
    · replace c_7 : ¬ ((0) < ((r % (m_sign_bit c)) / 2 ^ ((dictI [(32, 23), (64, 52)] (m_width_of c)) : Int).toNat)) := of_decide_eq_false c_7
      refine ⟨_, rfl, _, rfl, _, _, rfl, rfl, _, rfl, ?_⟩
      refine iteB (fun c_43 => ?_) (fun c_43 => ?_)
      · replace c_43 : ((r % (m_sign_bit c)) < r) := of_decide_eq_true c_43
        refine ⟨_, rfl, _, rfl, _, rfl, _, _, rfl, rfl, _, rfl, ?_⟩
        refine iteB (fun c_44 => ?_) (fun c_44 => ?_)
        · replace c_44 : ((0) ≤ (-(dictI [(32, 149), (64, 1074)] (m_width_of c)))) := of_decide_eq_true c_44
          refine ⟨_, rfl, _, rfl, _, _, rfl, rfl, cshl (by assumption) (m := 54) (by first | exact (frac_sz _ W).2.neg | exact (frac_sz _ W).2 | exact (frac_sz _ W).1.neg.mono (by decide) | exact (frac_sz _ W).1.mono (by decide)) (by omega), ?_⟩
          intro p_46 d_49 n_50 n_51 _
          refine ⟨p_46, d_49, _, _, rfl, upd_same, fun H_45 h_48 k_52 => ⟨rfl, ?_⟩⟩
          have s_47 := Same.made n_50 n_51 k_52
          exact leafR (u := (((-((r % (m_sign_bit c)) % ((1) * 2 ^ ((dictI [(32, 23), (64, 52)] (m_width_of c)) : Int).toNat))) * 2 ^ ((-(dictI [(32, 149), (64, 1074)] (m_width_of c))) : Int).toNat), (1))) k (Same.trans (Same.trans (Same.trans s_2 s_4) s_6) s_47) h_48 (by unfold m_float_worth; rw [if_neg c_7, if_pos c_43, if_pos c_44]; try rfl)
        · replace c_44 : ¬ ((0) ≤ (-(dictI [(32, 149), (64, 1074)] (m_width_of c)))) := of_decide_eq_false c_44
          refine ⟨_, rfl, _, rfl, _, rfl, _, _, rfl, rfl, cshl (by omega) (m := 1) (by decide) (by omega), ?_⟩
          intro p_54 d_57 n_58 n_59 _
          refine ⟨p_54, d_57, _, _, rfl, upd_same, fun H_53 h_56 k_60 => ⟨rfl, ?_⟩⟩
          have s_55 := Same.made n_58 n_59 k_60
          exact leafR (u := ((-((r % (m_sign_bit c)) % ((1) * 2 ^ ((dictI [(32, 23), (64, 52)] (m_width_of c)) : Int).toNat))), ((1) * 2 ^ ((-(-(dictI [(32, 149), (64, 1074)] (m_width_of c)))) : Int).toNat))) k (Same.trans (Same.trans (Same.trans s_2 s_4) s_6) s_55) h_56 (by unfold m_float_worth; rw [if_neg c_7, if_pos c_43, if_neg c_44]; try rfl)
      · replace c_43 : ¬ ((r % (m_sign_bit c)) < r) := of_decide_eq_false c_43
        refine ⟨_, rfl, _, _, rfl, rfl, _, rfl, ?_⟩
        refine iteB (fun c_61 => ?_) (fun c_61 => ?_)
        · replace c_61 : ((0) ≤ (-(dictI [(32, 149), (64, 1074)] (m_width_of c)))) := of_decide_eq_true c_61
          refine ⟨_, rfl, _, rfl, _, _, rfl, rfl, cshl (by assumption) (m := 54) (by first | exact (frac_sz _ W).2.neg | exact (frac_sz _ W).2 | exact (frac_sz _ W).1.neg.mono (by decide) | exact (frac_sz _ W).1.mono (by decide)) (by omega), ?_⟩
          intro p_63 d_66 n_67 n_68 _
          refine ⟨p_63, d_66, _, _, rfl, upd_same, fun H_62 h_65 k_69 => ⟨rfl, ?_⟩⟩
          have s_64 := Same.made n_67 n_68 k_69
          exact leafR (u := ((((r % (m_sign_bit c)) % ((1) * 2 ^ ((dictI [(32, 23), (64, 52)] (m_width_of c)) : Int).toNat)) * 2 ^ ((-(dictI [(32, 149), (64, 1074)] (m_width_of c))) : Int).toNat), (1))) k (Same.trans (Same.trans (Same.trans s_2 s_4) s_6) s_64) h_65 (by unfold m_float_worth; rw [if_neg c_7, if_neg c_43, if_pos c_61]; try rfl)
        · replace c_61 : ¬ ((0) ≤ (-(dictI [(32, 149), (64, 1074)] (m_width_of c)))) := of_decide_eq_false c_61
          refine ⟨_, rfl, _, rfl, _, rfl, _, _, rfl, rfl, cshl (by omega) (m := 1) (by decide) (by omega), ?_⟩
          intro p_71 d_74 n_75 n_76 _
          refine ⟨p_71, d_74, _, _, rfl, upd_same, fun H_70 h_73 k_77 => ⟨rfl, ?_⟩⟩
          have s_72 := Same.made n_75 n_76 k_77
          exact leafR (u := (((r % (m_sign_bit c)) % ((1) * 2 ^ ((dictI [(32, 23), (64, 52)] (m_width_of c)) : Int).toNat)), ((1) * 2 ^ ((-(-(dictI [(32, 149), (64, 1074)] (m_width_of c)))) : Int).toNat))) k (Same.trans (Same.trans (Same.trans s_2 s_4) s_6) s_72) h_73 (by unfold m_float_worth; rw [if_neg c_7, if_neg c_43, if_neg c_61]; try rfl)
def sp_worth_of (C : Addr) : Sp := fun vs H Q _ => ∃ (c : Int) (r : Int), vs = [.int c, .int r] ∧ (m_is_format c = true) ∧ ∀ (H' : Hp) (p : Addr), Same H H' → RatAt C H' p (m_worth_of c r).1 (m_worth_of c r).2 → Q (.ref p) H'
theorem bd_worth_of (T : Txt K mg) : Binds K T.fd_worth_of ["c", "r"] [] := T.F_worth_of.binds (ps := ["c", "r"]) fun _ _ _ _ _ _ us hl => match us, hl with | [_, _], _ => rfl
theorem ok_worth_of (T : Txt K mg) : FnOk P w K mg base CX0 4 T.f_worth_of T.fd_worth_of ["c", "r"] (sp_worth_of T.a_Ratio) := by
  refine T.F_worth_of.ok sc_worth_of (fun vs H Q E h => ?_) (fun cdv A outer s H vs Q E hr h => ?_)
  · obtain ⟨c, r, rfl, _⟩ := h
    rfl
  · obtain ⟨c, r, rfl, hpre, k⟩ := h
    refine ⟨_, (pss_cons (ps_if (pt_cmpR op_eqI (pe_call (ok_kind_of T) (hr.mono (by decide)) rfl T.m_kind_of T.F_kind_of.kp (bd_kind_of T) .nil pass0 (pa_cons (pv 0) pa_nil)) (pe_globE rfl T.c_FLOAT) (nomark _)) (pss_one (ps_ret (pe_call (ok_float_worth T) (hr.mono (by decide)) rfl T.m_float_worth T.F_float_worth.kp (bd_float_worth T) .nil pass0 (pa_cons (pv 0) (pa_cons (pv 1) pa_nil))))) pss_nil)
      (pss_one (ps_ret (pe_make T.mk_Ratio (ok_Ratio_init T) (hr.mono (by decide)) rfl T.m_Ratio (bd_Ratio_init T) .nil pass0 (pa_cons (pe_call (ok_steps_of T) (hr.mono (by decide)) rfl T.m_steps_of T.F_steps_of.kp (bd_steps_of T) .nil pass0 (pa_cons (pv 0) (pa_cons (pv 1) pa_nil))) (pa_cons (pe_op op_shlB pe_int (pe_call (ok_point_of T) (hr.mono (by decide)) rfl T.m_point_of T.F_point_of.kp (bd_point_of T) .nil pass0 (pa_cons (pv 0) pa_nil))) pa_nil)))))), ?_⟩
    refine ⟨_, rfl, _, rfl, trivial, fun H_1 s_2 => ?_⟩
    refine ⟨_, _, rfl, rfl, _, rfl, ?_⟩
    refine iteB (fun c_3 => ?_) (fun c_3 => ?_)
    · replace c_3 : ((m_kind_of c) = (3)) := of_decide_eq_true c_3
      refine ⟨_, rfl, _, rfl, _, _, rfl, ⟨hpre, (by assumption)⟩, fun H_4 p_6 s_5 h_7 => ?_⟩
      exact leafR (u := (m_float_worth c r)) k (Same.trans s_2 s_5) h_7 (by unfold m_worth_of; rw [if_pos c_3]; try rfl)
    · replace c_3 : ¬ ((m_kind_of c) = (3)) := of_decide_eq_false c_3
      refine ⟨_, rfl, _, rfl, _, _, rfl, hpre, fun H_8 s_9 => ?_⟩
      refine ⟨_, rfl, _, rfl, trivial, fun H_10 s_11 => ?_⟩
      refine ⟨_, _, rfl, rfl, cshl (point_nn c) (m := 1) (by decide) (by have := point_lt c; omega), ?_⟩
      intro p_13 d_16 n_17 n_18 _
      refine ⟨p_13, d_16, _, _, rfl, upd_same, fun H_12 h_15 k_19 => ⟨rfl, ?_⟩⟩
      have s_14 := Same.made n_17 n_18 k_19
      exact leafR (u := ((m_steps_of c r), ((1) * 2 ^ ((m_point_of c) : Int).toNat))) k (Same.trans (Same.trans (Same.trans s_2 s_9) s_11) s_14) h_15 (by unfold m_worth_of; rw [if_neg c_3]; try rfl)
def sp_write : Sp := fun vs H Q _ => ∃ (c : Int) (r : Int), vs = [.int c, .int r] ∧ True ∧ ∀ (H' : Hp) (p : Addr), H' p = some (.lst ((m_write c r).map V.int)) → Q (.ref p) H'
theorem bd_write (T : Txt K mg) : Binds K T.fd_write ["c", "r"] [] := T.F_write.binds (ps := ["c", "r"]) fun _ _ _ _ _ _ us hl => match us, hl with | [_, _], _ => rfl
theorem ok_write (T : Txt K mg) : FnOk P w K mg base CX0 6 T.f_write T.fd_write ["c", "r"] sp_write := by
  refine T.F_write.ok sc_write (fun vs H Q E h => ?_) (fun cdv A outer s H vs Q E hr h => ?_)
  · obtain ⟨c, r, rfl, _⟩ := h
    rfl
  · obtain ⟨c, r, rfl, _, k⟩ := h
    refine ⟨_, (pss_cons (ps_if (pt_not (pt_val (pe_call (ok_is_raw T) (hr.mono (by decide)) rfl T.m_is_raw T.F_is_raw.kp (bd_is_raw T) .nil pass0 (pa_cons (pv 0) (pa_cons (pv 1) pa_nil))))) (pss_one (ps_ret (pe_lst (pa_cons (pe_globE rfl T.c_WRONG_ARGUMENT) pa_nil)))) pss_nil)
      (pss_one (ps_ret (pe_op op_cat (pe_lst (pa_cons pe_int pa_nil)) (pe_call (ok_written T) (hr.mono (by decide)) rfl T.m_written T.F_written.kp (bd_written T) .nil pass0 (pa_cons (pe_call (ok_worth_of T) (hr.mono (by decide)) rfl T.m_worth_of T.F_worth_of.kp (bd_worth_of T) .nil pass0 (pa_cons (pv 0) (pa_cons (pv 1) pa_nil))) pa_nil)))))), ?_⟩
    refine ⟨_, rfl, _, rfl, _, _, rfl, trivial, fun H1 s1 => ?_⟩
    refine ⟨_, rfl, ?_⟩
    refine iteB (fun c1 => ?_) (fun c1 => ?_)
    · replace c1 : ¬ m_is_raw c r = true := ne_true_of_eq_false (not_t c1)
      refine ⟨(by show 1 ≤ sizeLine; decide), fun p hp => ?_⟩
      exact k _ _ (by rw [upd_same]; unfold m_write; rw [if_neg c1]; rfl)
    · replace c1 : m_is_raw c r = true := not_f c1
      obtain ⟨n, hn, hb, hs, _⟩ := worth_is c1
      refine ⟨(by show 1 ≤ sizeLine; decide), fun p hp => ?_⟩
      refine ⟨_, rfl, _, rfl, _, _, rfl, raw_fmt c1, fun H2 q s2 hq => ?_⟩
      rw [hb] at hq
      refine ⟨_, _, n, rfl, hq, ⟨hn, hs.mono (by decide)⟩, fun H3 p3 s3 h3 l3 => ?_⟩
      refine ⟨_, _, _, _, rfl, rfl, s3 _ _ (s2 _ _ upd_same), h3, ?_, fun p4 h4 => ?_⟩
      · rw [List.length_map]; exact Nat.le_trans (Nat.add_le_add_left l3 1) (by decide)
      · refine k _ _ ?_
        rw [upd_same]
        unfold m_write qv
        rw [if_pos c1, hb]
        rfl
theorem bt_write (T : Txt K mg) : ∀ (s : Shared) (us : List Value), us.length = (["c", "r"] : List Str).length → BindsTo s T.fd_write ⟨us, []⟩ ((["c", "r"] : List Str).zip us) := by
  obtain ⟨oc, od, kV, doc, pm, an, cdv, ct, osl, e, lk, hcd⟩ := T.F_write.ex
  intro s us hu
  rw [e]
  exact match us, hu with | [_, _], _ => .of_eq rfl
end
def txt_mk {K : PySem.W.Frag} {h : Heap} {mg : Str → Option Value} (X : K.In h) (G : h.Ns mainGlobals mg)
    {f_kind_of : Addr} {od_kind_of an_kind_of : Option Addr} {sl_kind_of : Array (Option Value)} {oc_kind_of kV_kind_of dc_kind_of pm_kind_of cd_kind_of ct_kind_of : Value}
    {f_width_of : Addr} {od_width_of an_width_of : Option Addr} {sl_width_of : Array (Option Value)} {oc_width_of kV_width_of dc_width_of pm_width_of cd_width_of ct_width_of : Value}
    {f_point_of : Addr} {od_point_of an_point_of : Option Addr} {sl_point_of : Array (Option Value)} {oc_point_of kV_point_of dc_point_of pm_point_of cd_point_of ct_point_of : Value}
    {f_is_format : Addr} {od_is_format an_is_format : Option Addr} {sl_is_format : Array (Option Value)} {oc_is_format kV_is_format dc_is_format pm_is_format cd_is_format ct_is_format : Value}
    {f_sign_bit : Addr} {od_sign_bit an_sign_bit : Option Addr} {sl_sign_bit : Array (Option Value)} {oc_sign_bit kV_sign_bit dc_sign_bit pm_sign_bit cd_sign_bit ct_sign_bit : Value}
    {f_infinity_raw : Addr} {od_infinity_raw an_infinity_raw : Option Addr} {sl_infinity_raw : Array (Option Value)} {oc_infinity_raw kV_infinity_raw dc_infinity_raw pm_infinity_raw cd_infinity_raw ct_infinity_raw : Value}
    {f_digits_of : Addr} {od_digits_of an_digits_of : Option Addr} {sl_digits_of : Array (Option Value)} {oc_digits_of kV_digits_of dc_digits_of pm_digits_of cd_digits_of ct_digits_of : Value}
    {f_digits_behind_point : Addr} {od_digits_behind_point an_digits_behind_point : Option Addr} {sl_digits_behind_point : Array (Option Value)} {oc_digits_behind_point kV_digits_behind_point dc_digits_behind_point pm_digits_behind_point cd_digits_behind_point ct_digits_behind_point : Value}
    {f_written : Addr} {od_written an_written : Option Addr} {sl_written : Array (Option Value)} {oc_written kV_written dc_written pm_written cd_written ct_written : Value}
    {f_fits_width : Addr} {od_fits_width an_fits_width : Option Addr} {sl_fits_width : Array (Option Value)} {oc_fits_width kV_fits_width dc_fits_width pm_fits_width cd_fits_width ct_fits_width : Value}
    {f_is_raw : Addr} {od_is_raw an_is_raw : Option Addr} {sl_is_raw : Array (Option Value)} {oc_is_raw kV_is_raw dc_is_raw pm_is_raw cd_is_raw ct_is_raw : Value}
    {f_is_good : Addr} {od_is_good an_is_good : Option Addr} {sl_is_good : Array (Option Value)} {oc_is_good kV_is_good dc_is_good pm_is_good cd_is_good ct_is_good : Value}
    {f_steps_of : Addr} {od_steps_of an_steps_of : Option Addr} {sl_steps_of : Array (Option Value)} {oc_steps_of kV_steps_of dc_steps_of pm_steps_of cd_steps_of ct_steps_of : Value}
    {f_float_worth : Addr} {od_float_worth an_float_worth : Option Addr} {sl_float_worth : Array (Option Value)} {oc_float_worth kV_float_worth dc_float_worth pm_float_worth cd_float_worth ct_float_worth : Value}
    {f_worth_of : Addr} {od_worth_of an_worth_of : Option Addr} {sl_worth_of : Array (Option Value)} {oc_worth_of kV_worth_of dc_worth_of pm_worth_of cd_worth_of ct_worth_of : Value}
    {f_write : Addr} {od_write an_write : Option Addr} {sl_write : Array (Option Value)} {oc_write kV_write dc_write pm_write cd_write ct_write : Value}
    {a_Ratio f_Ratio_init : Addr} {od_Ratio_init an_Ratio_init : Option Addr} {sl_Ratio_init : Array (Option Value)} {oc_Ratio_init kV_Ratio_init dc_Ratio_init pm_Ratio_init cd_Ratio_init ct_Ratio_init : Value}
    {tk_TRUTH : Tok}
    {tk_SIGNED : Tok}
    {tk_UNSIGNED : Tok}
    {tk_FLOAT : Tok}
    {tk_T : Tok}
    {tk_F32 : Tok}
    {tk_F64 : Tok}
    {a_WIDTHS : Addr} {o_WIDTHS : Obj}
    {a_FRACTION_BITS : Addr} {o_FRACTION_BITS : Obj}
    {a_LOWEST_PLACES : Addr} {o_LOWEST_PLACES : Obj}
    {tk_NOUGHT : Tok}
    {tk_MINUS : Tok}
    {tk_POINT : Tok}
    {tk_WRONG_ARGUMENT : Tok}
    (a_kind_of : PySem.W.nsIn K mainGlobals "kind_of" = some (some (.ref f_kind_of))) (l_kind_of : K.lookup f_kind_of = some ⟨oc_kind_of, od_kind_of, .func (PySem.W.fnOf "kind_of" "kind_of" (defArgs s_kind_of) (defBody s_kind_of) (defScope s_kind_of) .none kV_kind_of dc_kind_of pm_kind_of an_kind_of cd_kind_of ct_kind_of), sl_kind_of⟩) (k1_kind_of : PySem.W.codeIn K cd_kind_of "kind_of" = true) (k2_kind_of : PySem.W.keepIn K (.ref f_kind_of) = true)
    (a_width_of : PySem.W.nsIn K mainGlobals "width_of" = some (some (.ref f_width_of))) (l_width_of : K.lookup f_width_of = some ⟨oc_width_of, od_width_of, .func (PySem.W.fnOf "width_of" "width_of" (defArgs s_width_of) (defBody s_width_of) (defScope s_width_of) .none kV_width_of dc_width_of pm_width_of an_width_of cd_width_of ct_width_of), sl_width_of⟩) (k1_width_of : PySem.W.codeIn K cd_width_of "width_of" = true) (k2_width_of : PySem.W.keepIn K (.ref f_width_of) = true)
    (a_point_of : PySem.W.nsIn K mainGlobals "point_of" = some (some (.ref f_point_of))) (l_point_of : K.lookup f_point_of = some ⟨oc_point_of, od_point_of, .func (PySem.W.fnOf "point_of" "point_of" (defArgs s_point_of) (defBody s_point_of) (defScope s_point_of) .none kV_point_of dc_point_of pm_point_of an_point_of cd_point_of ct_point_of), sl_point_of⟩) (k1_point_of : PySem.W.codeIn K cd_point_of "point_of" = true) (k2_point_of : PySem.W.keepIn K (.ref f_point_of) = true)
    (a_is_format : PySem.W.nsIn K mainGlobals "is_format" = some (some (.ref f_is_format))) (l_is_format : K.lookup f_is_format = some ⟨oc_is_format, od_is_format, .func (PySem.W.fnOf "is_format" "is_format" (defArgs s_is_format) (defBody s_is_format) (defScope s_is_format) .none kV_is_format dc_is_format pm_is_format an_is_format cd_is_format ct_is_format), sl_is_format⟩) (k1_is_format : PySem.W.codeIn K cd_is_format "is_format" = true) (k2_is_format : PySem.W.keepIn K (.ref f_is_format) = true)
    (a_sign_bit : PySem.W.nsIn K mainGlobals "sign_bit" = some (some (.ref f_sign_bit))) (l_sign_bit : K.lookup f_sign_bit = some ⟨oc_sign_bit, od_sign_bit, .func (PySem.W.fnOf "sign_bit" "sign_bit" (defArgs s_sign_bit) (defBody s_sign_bit) (defScope s_sign_bit) .none kV_sign_bit dc_sign_bit pm_sign_bit an_sign_bit cd_sign_bit ct_sign_bit), sl_sign_bit⟩) (k1_sign_bit : PySem.W.codeIn K cd_sign_bit "sign_bit" = true) (k2_sign_bit : PySem.W.keepIn K (.ref f_sign_bit) = true)
    (a_infinity_raw : PySem.W.nsIn K mainGlobals "infinity_raw" = some (some (.ref f_infinity_raw))) (l_infinity_raw : K.lookup f_infinity_raw = some ⟨oc_infinity_raw, od_infinity_raw, .func (PySem.W.fnOf "infinity_raw" "infinity_raw" (defArgs s_infinity_raw) (defBody s_infinity_raw) (defScope s_infinity_raw) .none kV_infinity_raw dc_infinity_raw pm_infinity_raw an_infinity_raw cd_infinity_raw ct_infinity_raw), sl_infinity_raw⟩) (k1_infinity_raw : PySem.W.codeIn K cd_infinity_raw "infinity_raw" = true) (k2_infinity_raw : PySem.W.keepIn K (.ref f_infinity_raw) = true)
    (a_digits_of : PySem.W.nsIn K mainGlobals "digits_of" = some (some (.ref f_digits_of))) (l_digits_of : K.lookup f_digits_of = some ⟨oc_digits_of, od_digits_of, .func (PySem.W.fnOf "digits_of" "digits_of" (defArgs s_digits_of) (defBody s_digits_of) (defScope s_digits_of) .none kV_digits_of dc_digits_of pm_digits_of an_digits_of cd_digits_of ct_digits_of), sl_digits_of⟩) (k1_digits_of : PySem.W.codeIn K cd_digits_of "digits_of" = true) (k2_digits_of : PySem.W.keepIn K (.ref f_digits_of) = true)
    (a_digits_behind_point : PySem.W.nsIn K mainGlobals "digits_behind_point" = some (some (.ref f_digits_behind_point))) (l_digits_behind_point : K.lookup f_digits_behind_point = some ⟨oc_digits_behind_point, od_digits_behind_point, .func (PySem.W.fnOf "digits_behind_point" "digits_behind_point" (defArgs s_digits_behind_point) (defBody s_digits_behind_point) (defScope s_digits_behind_point) .none kV_digits_behind_point dc_digits_behind_point pm_digits_behind_point an_digits_behind_point cd_digits_behind_point ct_digits_behind_point), sl_digits_behind_point⟩) (k1_digits_behind_point : PySem.W.codeIn K cd_digits_behind_point "digits_behind_point" = true) (k2_digits_behind_point : PySem.W.keepIn K (.ref f_digits_behind_point) = true)
    (a_written : PySem.W.nsIn K mainGlobals "written" = some (some (.ref f_written))) (l_written : K.lookup f_written = some ⟨oc_written, od_written, .func (PySem.W.fnOf "written" "written" (defArgs s_written) (defBody s_written) (defScope s_written) .none kV_written dc_written pm_written an_written cd_written ct_written), sl_written⟩) (k1_written : PySem.W.codeIn K cd_written "written" = true) (k2_written : PySem.W.keepIn K (.ref f_written) = true)
    (a_fits_width : PySem.W.nsIn K mainGlobals "fits_width" = some (some (.ref f_fits_width))) (l_fits_width : K.lookup f_fits_width = some ⟨oc_fits_width, od_fits_width, .func (PySem.W.fnOf "fits_width" "fits_width" (defArgs s_fits_width) (defBody s_fits_width) (defScope s_fits_width) .none kV_fits_width dc_fits_width pm_fits_width an_fits_width cd_fits_width ct_fits_width), sl_fits_width⟩) (k1_fits_width : PySem.W.codeIn K cd_fits_width "fits_width" = true) (k2_fits_width : PySem.W.keepIn K (.ref f_fits_width) = true)
    (a_is_raw : PySem.W.nsIn K mainGlobals "is_raw" = some (some (.ref f_is_raw))) (l_is_raw : K.lookup f_is_raw = some ⟨oc_is_raw, od_is_raw, .func (PySem.W.fnOf "is_raw" "is_raw" (defArgs s_is_raw) (defBody s_is_raw) (defScope s_is_raw) .none kV_is_raw dc_is_raw pm_is_raw an_is_raw cd_is_raw ct_is_raw), sl_is_raw⟩) (k1_is_raw : PySem.W.codeIn K cd_is_raw "is_raw" = true) (k2_is_raw : PySem.W.keepIn K (.ref f_is_raw) = true)
    (a_is_good : PySem.W.nsIn K mainGlobals "is_good" = some (some (.ref f_is_good))) (l_is_good : K.lookup f_is_good = some ⟨oc_is_good, od_is_good, .func (PySem.W.fnOf "is_good" "is_good" (defArgs s_is_good) (defBody s_is_good) (defScope s_is_good) .none kV_is_good dc_is_good pm_is_good an_is_good cd_is_good ct_is_good), sl_is_good⟩) (k1_is_good : PySem.W.codeIn K cd_is_good "is_good" = true) (k2_is_good : PySem.W.keepIn K (.ref f_is_good) = true)
    (a_steps_of : PySem.W.nsIn K mainGlobals "steps_of" = some (some (.ref f_steps_of))) (l_steps_of : K.lookup f_steps_of = some ⟨oc_steps_of, od_steps_of, .func (PySem.W.fnOf "steps_of" "steps_of" (defArgs s_steps_of) (defBody s_steps_of) (defScope s_steps_of) .none kV_steps_of dc_steps_of pm_steps_of an_steps_of cd_steps_of ct_steps_of), sl_steps_of⟩) (k1_steps_of : PySem.W.codeIn K cd_steps_of "steps_of" = true) (k2_steps_of : PySem.W.keepIn K (.ref f_steps_of) = true)
    (a_float_worth : PySem.W.nsIn K mainGlobals "float_worth" = some (some (.ref f_float_worth))) (l_float_worth : K.lookup f_float_worth = some ⟨oc_float_worth, od_float_worth, .func (PySem.W.fnOf "float_worth" "float_worth" (defArgs s_float_worth) (defBody s_float_worth) (defScope s_float_worth) .none kV_float_worth dc_float_worth pm_float_worth an_float_worth cd_float_worth ct_float_worth), sl_float_worth⟩) (k1_float_worth : PySem.W.codeIn K cd_float_worth "float_worth" = true) (k2_float_worth : PySem.W.keepIn K (.ref f_float_worth) = true)
    (a_worth_of : PySem.W.nsIn K mainGlobals "worth_of" = some (some (.ref f_worth_of))) (l_worth_of : K.lookup f_worth_of = some ⟨oc_worth_of, od_worth_of, .func (PySem.W.fnOf "worth_of" "worth_of" (defArgs s_worth_of) (defBody s_worth_of) (defScope s_worth_of) .none kV_worth_of dc_worth_of pm_worth_of an_worth_of cd_worth_of ct_worth_of), sl_worth_of⟩) (k1_worth_of : PySem.W.codeIn K cd_worth_of "worth_of" = true) (k2_worth_of : PySem.W.keepIn K (.ref f_worth_of) = true)
    (a_write : PySem.W.nsIn K mainGlobals "write" = some (some (.ref f_write))) (l_write : K.lookup f_write = some ⟨oc_write, od_write, .func (PySem.W.fnOf "write" "write" (defArgs s_write) (defBody s_write) (defScope s_write) .none kV_write dc_write pm_write an_write cd_write ct_write), sl_write⟩) (k1_write : PySem.W.codeIn K cd_write "write" = true) (k2_write : PySem.W.keepIn K (.ref f_write) = true)
    (ac_Ratio : PySem.W.nsIn K mainGlobals "Ratio" = some (some (.ref a_Ratio))) (a_Ratio_init : PySem.W.findIn K (.ref a_Ratio) "__init__" = some (some (.ref f_Ratio_init))) (n_Ratio_init : PySem.W.isFn K (.ref f_Ratio_init) = true) (l_Ratio_init : K.lookup f_Ratio_init = some ⟨oc_Ratio_init, od_Ratio_init, .func (PySem.W.fnOf "__init__" "Ratio.__init__" (defArgs s_Ratio_init) (defBody s_Ratio_init) (defScope s_Ratio_init) .none kV_Ratio_init dc_Ratio_init pm_Ratio_init an_Ratio_init cd_Ratio_init ct_Ratio_init), sl_Ratio_init⟩) (k1_Ratio_init : PySem.W.codeIn K cd_Ratio_init "Ratio.__init__" = true) (k2_Ratio_init : PySem.W.keepIn K (.ref f_Ratio_init) = true) (pg_Ratio : PySem.W.plainGet K a_Ratio Str.empty = true) (hd_Ratio : PySem.W.hasDictIn K a_Ratio = true) (po_Ratio : PySem.W.plainOver K a_Ratio = true) (sa_Ratio : PySem.W.findIn K (.ref a_Ratio) "__setattr__" = some (some (.builtin "object.__setattr__"))) (mk_Ratio : PySem.W.makesIn K a_Ratio = true) (kc_Ratio : PySem.W.keepIn K (.ref a_Ratio) = true)
    (na_Ratio_top : PySem.W.findIn K (.ref a_Ratio) "top" = some none)
    (na_Ratio_bottom : PySem.W.findIn K (.ref a_Ratio) "bottom" = some none)
    (g_TRUTH : PySem.W.nsIn K mainGlobals "TRUTH" = some (some (.int (0) tk_TRUTH)))
    (g_SIGNED : PySem.W.nsIn K mainGlobals "SIGNED" = some (some (.int (1) tk_SIGNED)))
    (g_UNSIGNED : PySem.W.nsIn K mainGlobals "UNSIGNED" = some (some (.int (2) tk_UNSIGNED)))
    (g_FLOAT : PySem.W.nsIn K mainGlobals "FLOAT" = some (some (.int (3) tk_FLOAT)))
    (g_T : PySem.W.nsIn K mainGlobals "T" = some (some (.int (2048) tk_T)))
    (g_F32 : PySem.W.nsIn K mainGlobals "F32" = some (some (.int (204800) tk_F32)))
    (g_F64 : PySem.W.nsIn K mainGlobals "F64" = some (some (.int (212992) tk_F64)))
    (g_WIDTHS : PySem.W.nsIn K mainGlobals "WIDTHS" = some (some (.ref a_WIDTHS))) (h_WIDTHS : K.lookup a_WIDTHS = some o_WIDTHS) (i_WIDTHS : seqTC o_WIDTHS [.int (8), .int (16), .int (32), .int (64)] = true)
    (g_FRACTION_BITS : PySem.W.nsIn K mainGlobals "FRACTION_BITS" = some (some (.ref a_FRACTION_BITS))) (h_FRACTION_BITS : K.lookup a_FRACTION_BITS = some o_FRACTION_BITS) (i_FRACTION_BITS : dictC o_FRACTION_BITS [(32, .int (23)), (64, .int (52))] = true)
    (g_LOWEST_PLACES : PySem.W.nsIn K mainGlobals "LOWEST_PLACES" = some (some (.ref a_LOWEST_PLACES))) (h_LOWEST_PLACES : K.lookup a_LOWEST_PLACES = some o_LOWEST_PLACES) (i_LOWEST_PLACES : dictC o_LOWEST_PLACES [(32, .int (149)), (64, .int (1074))] = true)
    (g_NOUGHT : PySem.W.nsIn K mainGlobals "NOUGHT" = some (some (.int (48) tk_NOUGHT)))
    (g_MINUS : PySem.W.nsIn K mainGlobals "MINUS" = some (some (.int (45) tk_MINUS)))
    (g_POINT : PySem.W.nsIn K mainGlobals "POINT" = some (some (.int (46) tk_POINT)))
    (g_WRONG_ARGUMENT : PySem.W.nsIn K mainGlobals "WRONG_ARGUMENT" = some (some (.int (-1) tk_WRONG_ARGUMENT)))
    (n_abs : PySem.W.nsIn K mainGlobals "abs" = some none)
    (n_len : PySem.W.nsIn K mainGlobals "len" = some none)
    (n_list : PySem.W.nsIn K mainGlobals "list" = some none)
    (n_reversed : PySem.W.nsIn K mainGlobals "reversed" = some none) : Txt K mg :=
  { f_kind_of := f_kind_of, fd_kind_of := _, F_kind_of := fun_mk l_kind_of k1_kind_of k2_kind_of, m_kind_of := PySem.W.mg_of X G a_kind_of,
    f_width_of := f_width_of, fd_width_of := _, F_width_of := fun_mk l_width_of k1_width_of k2_width_of, m_width_of := PySem.W.mg_of X G a_width_of,
    f_point_of := f_point_of, fd_point_of := _, F_point_of := fun_mk l_point_of k1_point_of k2_point_of, m_point_of := PySem.W.mg_of X G a_point_of,
    f_is_format := f_is_format, fd_is_format := _, F_is_format := fun_mk l_is_format k1_is_format k2_is_format, m_is_format := PySem.W.mg_of X G a_is_format,
    f_sign_bit := f_sign_bit, fd_sign_bit := _, F_sign_bit := fun_mk l_sign_bit k1_sign_bit k2_sign_bit, m_sign_bit := PySem.W.mg_of X G a_sign_bit,
    f_infinity_raw := f_infinity_raw, fd_infinity_raw := _, F_infinity_raw := fun_mk l_infinity_raw k1_infinity_raw k2_infinity_raw, m_infinity_raw := PySem.W.mg_of X G a_infinity_raw,
    f_digits_of := f_digits_of, fd_digits_of := _, F_digits_of := fun_mk l_digits_of k1_digits_of k2_digits_of, m_digits_of := PySem.W.mg_of X G a_digits_of,
    f_digits_behind_point := f_digits_behind_point, fd_digits_behind_point := _, F_digits_behind_point := fun_mk l_digits_behind_point k1_digits_behind_point k2_digits_behind_point, m_digits_behind_point := PySem.W.mg_of X G a_digits_behind_point,
    f_written := f_written, fd_written := _, F_written := fun_mk l_written k1_written k2_written, m_written := PySem.W.mg_of X G a_written,
    f_fits_width := f_fits_width, fd_fits_width := _, F_fits_width := fun_mk l_fits_width k1_fits_width k2_fits_width, m_fits_width := PySem.W.mg_of X G a_fits_width,
    f_is_raw := f_is_raw, fd_is_raw := _, F_is_raw := fun_mk l_is_raw k1_is_raw k2_is_raw, m_is_raw := PySem.W.mg_of X G a_is_raw,
    f_is_good := f_is_good, fd_is_good := _, F_is_good := fun_mk l_is_good k1_is_good k2_is_good, m_is_good := PySem.W.mg_of X G a_is_good,
    f_steps_of := f_steps_of, fd_steps_of := _, F_steps_of := fun_mk l_steps_of k1_steps_of k2_steps_of, m_steps_of := PySem.W.mg_of X G a_steps_of,
    f_float_worth := f_float_worth, fd_float_worth := _, F_float_worth := fun_mk l_float_worth k1_float_worth k2_float_worth, m_float_worth := PySem.W.mg_of X G a_float_worth,
    f_worth_of := f_worth_of, fd_worth_of := _, F_worth_of := fun_mk l_worth_of k1_worth_of k2_worth_of, m_worth_of := PySem.W.mg_of X G a_worth_of,
    f_write := f_write, fd_write := _, F_write := fun_mk l_write k1_write k2_write, m_write := PySem.W.mg_of X G a_write,
    a_Ratio := a_Ratio, f_Ratio_init := f_Ratio_init, fd_Ratio_init := _, F_Ratio_init := fun_mk l_Ratio_init k1_Ratio_init k2_Ratio_init, m_Ratio := PySem.W.mg_of X G ac_Ratio, cl_Ratio := ⟨pg_Ratio, hd_Ratio, po_Ratio, sa_Ratio⟩, mk_Ratio := ⟨mk_Ratio, a_Ratio_init, n_Ratio_init, kc_Ratio⟩,
    na_Ratio_top := na_Ratio_top,
    na_Ratio_bottom := na_Ratio_bottom,
    c_TRUTH := ⟨_, PySem.W.mg_of X G g_TRUTH, ⟨_, rfl⟩⟩,
    c_SIGNED := ⟨_, PySem.W.mg_of X G g_SIGNED, ⟨_, rfl⟩⟩,
    c_UNSIGNED := ⟨_, PySem.W.mg_of X G g_UNSIGNED, ⟨_, rfl⟩⟩,
    c_FLOAT := ⟨_, PySem.W.mg_of X G g_FLOAT, ⟨_, rfl⟩⟩,
    c_T := ⟨_, PySem.W.mg_of X G g_T, ⟨_, rfl⟩⟩,
    c_F32 := ⟨_, PySem.W.mg_of X G g_F32, ⟨_, rfl⟩⟩,
    c_F64 := ⟨_, PySem.W.mg_of X G g_F64, ⟨_, rfl⟩⟩,
    a_WIDTHS := a_WIDTHS, c_WIDTHS := ⟨_, PySem.W.mg_of X G g_WIDTHS, rfl⟩, q_WIDTHS := fun H => seqT_of h_WIDTHS i_WIDTHS,
    a_FRACTION_BITS := a_FRACTION_BITS, c_FRACTION_BITS := ⟨_, PySem.W.mg_of X G g_FRACTION_BITS, rfl⟩, q_FRACTION_BITS := dict_of h_FRACTION_BITS i_FRACTION_BITS,
    a_LOWEST_PLACES := a_LOWEST_PLACES, c_LOWEST_PLACES := ⟨_, PySem.W.mg_of X G g_LOWEST_PLACES, rfl⟩, q_LOWEST_PLACES := dict_of h_LOWEST_PLACES i_LOWEST_PLACES,
    c_NOUGHT := ⟨_, PySem.W.mg_of X G g_NOUGHT, ⟨_, rfl⟩⟩,
    c_MINUS := ⟨_, PySem.W.mg_of X G g_MINUS, ⟨_, rfl⟩⟩,
    c_POINT := ⟨_, PySem.W.mg_of X G g_POINT, ⟨_, rfl⟩⟩,
    c_WRONG_ARGUMENT := ⟨_, PySem.W.mg_of X G g_WRONG_ARGUMENT, ⟨_, rfl⟩⟩,
    n_abs := PySem.W.mg_none_of X G n_abs,
    n_len := PySem.W.mg_none_of X G n_len,
    n_list := PySem.W.mg_none_of X G n_list,
    n_reversed := PySem.W.mg_none_of X G n_reversed }
theorem all_mk {P : Program} {w : World} {fa : Addr} {K : PySem.W.Frag} {h : Heap} {mg : Str → Option Value} (X : K.In h) (G : h.Ns mainGlobals mg)
    {f_kind_of : Addr} {od_kind_of an_kind_of : Option Addr} {sl_kind_of : Array (Option Value)} {oc_kind_of kV_kind_of dc_kind_of pm_kind_of cd_kind_of ct_kind_of : Value}
    {f_width_of : Addr} {od_width_of an_width_of : Option Addr} {sl_width_of : Array (Option Value)} {oc_width_of kV_width_of dc_width_of pm_width_of cd_width_of ct_width_of : Value}
    {f_point_of : Addr} {od_point_of an_point_of : Option Addr} {sl_point_of : Array (Option Value)} {oc_point_of kV_point_of dc_point_of pm_point_of cd_point_of ct_point_of : Value}
    {f_is_format : Addr} {od_is_format an_is_format : Option Addr} {sl_is_format : Array (Option Value)} {oc_is_format kV_is_format dc_is_format pm_is_format cd_is_format ct_is_format : Value}
    {f_sign_bit : Addr} {od_sign_bit an_sign_bit : Option Addr} {sl_sign_bit : Array (Option Value)} {oc_sign_bit kV_sign_bit dc_sign_bit pm_sign_bit cd_sign_bit ct_sign_bit : Value}
    {f_infinity_raw : Addr} {od_infinity_raw an_infinity_raw : Option Addr} {sl_infinity_raw : Array (Option Value)} {oc_infinity_raw kV_infinity_raw dc_infinity_raw pm_infinity_raw cd_infinity_raw ct_infinity_raw : Value}
    {f_digits_of : Addr} {od_digits_of an_digits_of : Option Addr} {sl_digits_of : Array (Option Value)} {oc_digits_of kV_digits_of dc_digits_of pm_digits_of cd_digits_of ct_digits_of : Value}
    {f_digits_behind_point : Addr} {od_digits_behind_point an_digits_behind_point : Option Addr} {sl_digits_behind_point : Array (Option Value)} {oc_digits_behind_point kV_digits_behind_point dc_digits_behind_point pm_digits_behind_point cd_digits_behind_point ct_digits_behind_point : Value}
    {f_written : Addr} {od_written an_written : Option Addr} {sl_written : Array (Option Value)} {oc_written kV_written dc_written pm_written cd_written ct_written : Value}
    {f_fits_width : Addr} {od_fits_width an_fits_width : Option Addr} {sl_fits_width : Array (Option Value)} {oc_fits_width kV_fits_width dc_fits_width pm_fits_width cd_fits_width ct_fits_width : Value}
    {f_is_raw : Addr} {od_is_raw an_is_raw : Option Addr} {sl_is_raw : Array (Option Value)} {oc_is_raw kV_is_raw dc_is_raw pm_is_raw cd_is_raw ct_is_raw : Value}
    {f_is_good : Addr} {od_is_good an_is_good : Option Addr} {sl_is_good : Array (Option Value)} {oc_is_good kV_is_good dc_is_good pm_is_good cd_is_good ct_is_good : Value}
    {f_steps_of : Addr} {od_steps_of an_steps_of : Option Addr} {sl_steps_of : Array (Option Value)} {oc_steps_of kV_steps_of dc_steps_of pm_steps_of cd_steps_of ct_steps_of : Value}
    {f_float_worth : Addr} {od_float_worth an_float_worth : Option Addr} {sl_float_worth : Array (Option Value)} {oc_float_worth kV_float_worth dc_float_worth pm_float_worth cd_float_worth ct_float_worth : Value}
    {f_worth_of : Addr} {od_worth_of an_worth_of : Option Addr} {sl_worth_of : Array (Option Value)} {oc_worth_of kV_worth_of dc_worth_of pm_worth_of cd_worth_of ct_worth_of : Value}
    {f_write : Addr} {od_write an_write : Option Addr} {sl_write : Array (Option Value)} {oc_write kV_write dc_write pm_write cd_write ct_write : Value}
    {a_Ratio f_Ratio_init : Addr} {od_Ratio_init an_Ratio_init : Option Addr} {sl_Ratio_init : Array (Option Value)} {oc_Ratio_init kV_Ratio_init dc_Ratio_init pm_Ratio_init cd_Ratio_init ct_Ratio_init : Value}
    {tk_TRUTH : Tok}
    {tk_SIGNED : Tok}
    {tk_UNSIGNED : Tok}
    {tk_FLOAT : Tok}
    {tk_T : Tok}
    {tk_F32 : Tok}
    {tk_F64 : Tok}
    {a_WIDTHS : Addr} {o_WIDTHS : Obj}
    {a_FRACTION_BITS : Addr} {o_FRACTION_BITS : Obj}
    {a_LOWEST_PLACES : Addr} {o_LOWEST_PLACES : Obj}
    {tk_NOUGHT : Tok}
    {tk_MINUS : Tok}
    {tk_POINT : Tok}
    {tk_WRONG_ARGUMENT : Tok}
    (a_kind_of : PySem.W.nsIn K mainGlobals "kind_of" = some (some (.ref f_kind_of))) (l_kind_of : K.lookup f_kind_of = some ⟨oc_kind_of, od_kind_of, .func (PySem.W.fnOf "kind_of" "kind_of" (defArgs s_kind_of) (defBody s_kind_of) (defScope s_kind_of) .none kV_kind_of dc_kind_of pm_kind_of an_kind_of cd_kind_of ct_kind_of), sl_kind_of⟩) (k1_kind_of : PySem.W.codeIn K cd_kind_of "kind_of" = true) (k2_kind_of : PySem.W.keepIn K (.ref f_kind_of) = true)
    (a_width_of : PySem.W.nsIn K mainGlobals "width_of" = some (some (.ref f_width_of))) (l_width_of : K.lookup f_width_of = some ⟨oc_width_of, od_width_of, .func (PySem.W.fnOf "width_of" "width_of" (defArgs s_width_of) (defBody s_width_of) (defScope s_width_of) .none kV_width_of dc_width_of pm_width_of an_width_of cd_width_of ct_width_of), sl_width_of⟩) (k1_width_of : PySem.W.codeIn K cd_width_of "width_of" = true) (k2_width_of : PySem.W.keepIn K (.ref f_width_of) = true)
    (a_point_of : PySem.W.nsIn K mainGlobals "point_of" = some (some (.ref f_point_of))) (l_point_of : K.lookup f_point_of = some ⟨oc_point_of, od_point_of, .func (PySem.W.fnOf "point_of" "point_of" (defArgs s_point_of) (defBody s_point_of) (defScope s_point_of) .none kV_point_of dc_point_of pm_point_of an_point_of cd_point_of ct_point_of), sl_point_of⟩) (k1_point_of : PySem.W.codeIn K cd_point_of "point_of" = true) (k2_point_of : PySem.W.keepIn K (.ref f_point_of) = true)
    (a_is_format : PySem.W.nsIn K mainGlobals "is_format" = some (some (.ref f_is_format))) (l_is_format : K.lookup f_is_format = some ⟨oc_is_format, od_is_format, .func (PySem.W.fnOf "is_format" "is_format" (defArgs s_is_format) (defBody s_is_format) (defScope s_is_format) .none kV_is_format dc_is_format pm_is_format an_is_format cd_is_format ct_is_format), sl_is_format⟩) (k1_is_format : PySem.W.codeIn K cd_is_format "is_format" = true) (k2_is_format : PySem.W.keepIn K (.ref f_is_format) = true)
    (a_sign_bit : PySem.W.nsIn K mainGlobals "sign_bit" = some (some (.ref f_sign_bit))) (l_sign_bit : K.lookup f_sign_bit = some ⟨oc_sign_bit, od_sign_bit, .func (PySem.W.fnOf "sign_bit" "sign_bit" (defArgs s_sign_bit) (defBody s_sign_bit) (defScope s_sign_bit) .none kV_sign_bit dc_sign_bit pm_sign_bit an_sign_bit cd_sign_bit ct_sign_bit), sl_sign_bit⟩) (k1_sign_bit : PySem.W.codeIn K cd_sign_bit "sign_bit" = true) (k2_sign_bit : PySem.W.keepIn K (.ref f_sign_bit) = true)
    (a_infinity_raw : PySem.W.nsIn K mainGlobals "infinity_raw" = some (some (.ref f_infinity_raw))) (l_infinity_raw : K.lookup f_infinity_raw = some ⟨oc_infinity_raw, od_infinity_raw, .func (PySem.W.fnOf "infinity_raw" "infinity_raw" (defArgs s_infinity_raw) (defBody s_infinity_raw) (defScope s_infinity_raw) .none kV_infinity_raw dc_infinity_raw pm_infinity_raw an_infinity_raw cd_infinity_raw ct_infinity_raw), sl_infinity_raw⟩) (k1_infinity_raw : PySem.W.codeIn K cd_infinity_raw "infinity_raw" = true) (k2_infinity_raw : PySem.W.keepIn K (.ref f_infinity_raw) = true)
    (a_digits_of : PySem.W.nsIn K mainGlobals "digits_of" = some (some (.ref f_digits_of))) (l_digits_of : K.lookup f_digits_of = some ⟨oc_digits_of, od_digits_of, .func (PySem.W.fnOf "digits_of" "digits_of" (defArgs s_digits_of) (defBody s_digits_of) (defScope s_digits_of) .none kV_digits_of dc_digits_of pm_digits_of an_digits_of cd_digits_of ct_digits_of), sl_digits_of⟩) (k1_digits_of : PySem.W.codeIn K cd_digits_of "digits_of" = true) (k2_digits_of : PySem.W.keepIn K (.ref f_digits_of) = true)
    (a_digits_behind_point : PySem.W.nsIn K mainGlobals "digits_behind_point" = some (some (.ref f_digits_behind_point))) (l_digits_behind_point : K.lookup f_digits_behind_point = some ⟨oc_digits_behind_point, od_digits_behind_point, .func (PySem.W.fnOf "digits_behind_point" "digits_behind_point" (defArgs s_digits_behind_point) (defBody s_digits_behind_point) (defScope s_digits_behind_point) .none kV_digits_behind_point dc_digits_behind_point pm_digits_behind_point an_digits_behind_point cd_digits_behind_point ct_digits_behind_point), sl_digits_behind_point⟩) (k1_digits_behind_point : PySem.W.codeIn K cd_digits_behind_point "digits_behind_point" = true) (k2_digits_behind_point : PySem.W.keepIn K (.ref f_digits_behind_point) = true)
    (a_written : PySem.W.nsIn K mainGlobals "written" = some (some (.ref f_written))) (l_written : K.lookup f_written = some ⟨oc_written, od_written, .func (PySem.W.fnOf "written" "written" (defArgs s_written) (defBody s_written) (defScope s_written) .none kV_written dc_written pm_written an_written cd_written ct_written), sl_written⟩) (k1_written : PySem.W.codeIn K cd_written "written" = true) (k2_written : PySem.W.keepIn K (.ref f_written) = true)
    (a_fits_width : PySem.W.nsIn K mainGlobals "fits_width" = some (some (.ref f_fits_width))) (l_fits_width : K.lookup f_fits_width = some ⟨oc_fits_width, od_fits_width, .func (PySem.W.fnOf "fits_width" "fits_width" (defArgs s_fits_width) (defBody s_fits_width) (defScope s_fits_width) .none kV_fits_width dc_fits_width pm_fits_width an_fits_width cd_fits_width ct_fits_width), sl_fits_width⟩) (k1_fits_width : PySem.W.codeIn K cd_fits_width "fits_width" = true) (k2_fits_width : PySem.W.keepIn K (.ref f_fits_width) = true)
    (a_is_raw : PySem.W.nsIn K mainGlobals "is_raw" = some (some (.ref f_is_raw))) (l_is_raw : K.lookup f_is_raw = some ⟨oc_is_raw, od_is_raw, .func (PySem.W.fnOf "is_raw" "is_raw" (defArgs s_is_raw) (defBody s_is_raw) (defScope s_is_raw) .none kV_is_raw dc_is_raw pm_is_raw an_is_raw cd_is_raw ct_is_raw), sl_is_raw⟩) (k1_is_raw : PySem.W.codeIn K cd_is_raw "is_raw" = true) (k2_is_raw : PySem.W.keepIn K (.ref f_is_raw) = true)
    (a_is_good : PySem.W.nsIn K mainGlobals "is_good" = some (some (.ref f_is_good))) (l_is_good : K.lookup f_is_good = some ⟨oc_is_good, od_is_good, .func (PySem.W.fnOf "is_good" "is_good" (defArgs s_is_good) (defBody s_is_good) (defScope s_is_good) .none kV_is_good dc_is_good pm_is_good an_is_good cd_is_good ct_is_good), sl_is_good⟩) (k1_is_good : PySem.W.codeIn K cd_is_good "is_good" = true) (k2_is_good : PySem.W.keepIn K (.ref f_is_good) = true)
    (a_steps_of : PySem.W.nsIn K mainGlobals "steps_of" = some (some (.ref f_steps_of))) (l_steps_of : K.lookup f_steps_of = some ⟨oc_steps_of, od_steps_of, .func (PySem.W.fnOf "steps_of" "steps_of" (defArgs s_steps_of) (defBody s_steps_of) (defScope s_steps_of) .none kV_steps_of dc_steps_of pm_steps_of an_steps_of cd_steps_of ct_steps_of), sl_steps_of⟩) (k1_steps_of : PySem.W.codeIn K cd_steps_of "steps_of" = true) (k2_steps_of : PySem.W.keepIn K (.ref f_steps_of) = true)
    (a_float_worth : PySem.W.nsIn K mainGlobals "float_worth" = some (some (.ref f_float_worth))) (l_float_worth : K.lookup f_float_worth = some ⟨oc_float_worth, od_float_worth, .func (PySem.W.fnOf "float_worth" "float_worth" (defArgs s_float_worth) (defBody s_float_worth) (defScope s_float_worth) .none kV_float_worth dc_float_worth pm_float_worth an_float_worth cd_float_worth ct_float_worth), sl_float_worth⟩) (k1_float_worth : PySem.W.codeIn K cd_float_worth "float_worth" = true) (k2_float_worth : PySem.W.keepIn K (.ref f_float_worth) = true)
    (a_worth_of : PySem.W.nsIn K mainGlobals "worth_of" = some (some (.ref f_worth_of))) (l_worth_of : K.lookup f_worth_of = some ⟨oc_worth_of, od_worth_of, .func (PySem.W.fnOf "worth_of" "worth_of" (defArgs s_worth_of) (defBody s_worth_of) (defScope s_worth_of) .none kV_worth_of dc_worth_of pm_worth_of an_worth_of cd_worth_of ct_worth_of), sl_worth_of⟩) (k1_worth_of : PySem.W.codeIn K cd_worth_of "worth_of" = true) (k2_worth_of : PySem.W.keepIn K (.ref f_worth_of) = true)
    (a_write : PySem.W.nsIn K mainGlobals "write" = some (some (.ref f_write))) (l_write : K.lookup f_write = some ⟨oc_write, od_write, .func (PySem.W.fnOf "write" "write" (defArgs s_write) (defBody s_write) (defScope s_write) .none kV_write dc_write pm_write an_write cd_write ct_write), sl_write⟩) (k1_write : PySem.W.codeIn K cd_write "write" = true) (k2_write : PySem.W.keepIn K (.ref f_write) = true)
    (ac_Ratio : PySem.W.nsIn K mainGlobals "Ratio" = some (some (.ref a_Ratio))) (a_Ratio_init : PySem.W.findIn K (.ref a_Ratio) "__init__" = some (some (.ref f_Ratio_init))) (n_Ratio_init : PySem.W.isFn K (.ref f_Ratio_init) = true) (l_Ratio_init : K.lookup f_Ratio_init = some ⟨oc_Ratio_init, od_Ratio_init, .func (PySem.W.fnOf "__init__" "Ratio.__init__" (defArgs s_Ratio_init) (defBody s_Ratio_init) (defScope s_Ratio_init) .none kV_Ratio_init dc_Ratio_init pm_Ratio_init an_Ratio_init cd_Ratio_init ct_Ratio_init), sl_Ratio_init⟩) (k1_Ratio_init : PySem.W.codeIn K cd_Ratio_init "Ratio.__init__" = true) (k2_Ratio_init : PySem.W.keepIn K (.ref f_Ratio_init) = true) (pg_Ratio : PySem.W.plainGet K a_Ratio Str.empty = true) (hd_Ratio : PySem.W.hasDictIn K a_Ratio = true) (po_Ratio : PySem.W.plainOver K a_Ratio = true) (sa_Ratio : PySem.W.findIn K (.ref a_Ratio) "__setattr__" = some (some (.builtin "object.__setattr__"))) (mk_Ratio : PySem.W.makesIn K a_Ratio = true) (kc_Ratio : PySem.W.keepIn K (.ref a_Ratio) = true)
    (na_Ratio_top : PySem.W.findIn K (.ref a_Ratio) "top" = some none)
    (na_Ratio_bottom : PySem.W.findIn K (.ref a_Ratio) "bottom" = some none)
    (g_TRUTH : PySem.W.nsIn K mainGlobals "TRUTH" = some (some (.int (0) tk_TRUTH)))
    (g_SIGNED : PySem.W.nsIn K mainGlobals "SIGNED" = some (some (.int (1) tk_SIGNED)))
    (g_UNSIGNED : PySem.W.nsIn K mainGlobals "UNSIGNED" = some (some (.int (2) tk_UNSIGNED)))
    (g_FLOAT : PySem.W.nsIn K mainGlobals "FLOAT" = some (some (.int (3) tk_FLOAT)))
    (g_T : PySem.W.nsIn K mainGlobals "T" = some (some (.int (2048) tk_T)))
    (g_F32 : PySem.W.nsIn K mainGlobals "F32" = some (some (.int (204800) tk_F32)))
    (g_F64 : PySem.W.nsIn K mainGlobals "F64" = some (some (.int (212992) tk_F64)))
    (g_WIDTHS : PySem.W.nsIn K mainGlobals "WIDTHS" = some (some (.ref a_WIDTHS))) (h_WIDTHS : K.lookup a_WIDTHS = some o_WIDTHS) (i_WIDTHS : seqTC o_WIDTHS [.int (8), .int (16), .int (32), .int (64)] = true)
    (g_FRACTION_BITS : PySem.W.nsIn K mainGlobals "FRACTION_BITS" = some (some (.ref a_FRACTION_BITS))) (h_FRACTION_BITS : K.lookup a_FRACTION_BITS = some o_FRACTION_BITS) (i_FRACTION_BITS : dictC o_FRACTION_BITS [(32, .int (23)), (64, .int (52))] = true)
    (g_LOWEST_PLACES : PySem.W.nsIn K mainGlobals "LOWEST_PLACES" = some (some (.ref a_LOWEST_PLACES))) (h_LOWEST_PLACES : K.lookup a_LOWEST_PLACES = some o_LOWEST_PLACES) (i_LOWEST_PLACES : dictC o_LOWEST_PLACES [(32, .int (149)), (64, .int (1074))] = true)
    (g_NOUGHT : PySem.W.nsIn K mainGlobals "NOUGHT" = some (some (.int (48) tk_NOUGHT)))
    (g_MINUS : PySem.W.nsIn K mainGlobals "MINUS" = some (some (.int (45) tk_MINUS)))
    (g_POINT : PySem.W.nsIn K mainGlobals "POINT" = some (some (.int (46) tk_POINT)))
    (g_WRONG_ARGUMENT : PySem.W.nsIn K mainGlobals "WRONG_ARGUMENT" = some (some (.int (-1) tk_WRONG_ARGUMENT)))
    (n_abs : PySem.W.nsIn K mainGlobals "abs" = some none)
    (n_len : PySem.W.nsIn K mainGlobals "len" = some none)
    (n_list : PySem.W.nsIn K mainGlobals "list" = some none)
    (n_reversed : PySem.W.nsIn K mainGlobals "reversed" = some none) (hfa : mg "write" = some (.ref fa)) :
    ∃ fd : FuncData, (∀ (s : Shared) (us : List Value), us.length = (["c", "r"] : List Str).length → BindsTo s fd ⟨us, []⟩ ((["c", "r"] : List Str).zip us)) ∧ ∀ base : Heap, K.In base → base.Ns mainGlobals mg → FnOk P w K mg base CX0 6 fa fd ["c", "r"] sp_write := by
  have T0 : ∃ T : Txt K mg, True := ⟨txt_mk X G a_kind_of l_kind_of k1_kind_of k2_kind_of a_width_of l_width_of k1_width_of k2_width_of a_point_of l_point_of k1_point_of k2_point_of a_is_format l_is_format k1_is_format k2_is_format a_sign_bit l_sign_bit k1_sign_bit k2_sign_bit a_infinity_raw l_infinity_raw k1_infinity_raw k2_infinity_raw a_digits_of l_digits_of k1_digits_of k2_digits_of a_digits_behind_point l_digits_behind_point k1_digits_behind_point k2_digits_behind_point a_written l_written k1_written k2_written a_fits_width l_fits_width k1_fits_width k2_fits_width a_is_raw l_is_raw k1_is_raw k2_is_raw a_is_good l_is_good k1_is_good k2_is_good a_steps_of l_steps_of k1_steps_of k2_steps_of a_float_worth l_float_worth k1_float_worth k2_float_worth a_worth_of l_worth_of k1_worth_of k2_worth_of a_write l_write k1_write k2_write ac_Ratio a_Ratio_init n_Ratio_init l_Ratio_init k1_Ratio_init k2_Ratio_init pg_Ratio hd_Ratio po_Ratio sa_Ratio mk_Ratio kc_Ratio na_Ratio_top na_Ratio_bottom g_TRUTH g_SIGNED g_UNSIGNED g_FLOAT g_T g_F32 g_F64 g_WIDTHS h_WIDTHS i_WIDTHS g_FRACTION_BITS h_FRACTION_BITS i_FRACTION_BITS g_LOWEST_PLACES h_LOWEST_PLACES i_LOWEST_PLACES g_NOUGHT g_MINUS g_POINT g_WRONG_ARGUMENT n_abs n_len n_list n_reversed, trivial⟩
  obtain ⟨T, _⟩ := T0
  have e := hfa.symm.trans T.m_write
  cases e
  exact ⟨T.fd_write, bt_write T, fun base _ _ => ok_write T⟩
end Py
open PySem PySem.W PyProof.Rows
set_option maxRecDepth 100000 in
set_option maxHeartbeats 0 in
theorem PySem.Challenge.cw_exactraws_s15_write_holds : PySem.Challenge.rw_exactraws_s15_write.Holds := by
  w_on; k_headS; (case hw => exact ⟨[.int 0, .int 0], by decide +kernel, by decide +kernel⟩)
  k_fillS
  refine L2.walk_specK (r := PySem.Challenge.rw_exactraws_s15_write) (k := 6) (CX := L2.CX0) (ps := ["c", "r"]) (sp := fun _ => Py.sp_write) (by decide +kernel) rfl rfl ⟨rfl, by decide, by decide⟩ (fun w h Y => PySem.W.kIn_of Y) ?F ?S (fun _ _ _ _ z => z)
  case F =>
    intro w mg fa h Y KX G hmg
    refine' Py.all_mk KX G ?a_kind_of ?l_kind_of ?k1_kind_of ?k2_kind_of ?a_width_of ?l_width_of ?k1_width_of ?k2_width_of ?a_point_of ?l_point_of ?k1_point_of ?k2_point_of ?a_is_format ?l_is_format ?k1_is_format ?k2_is_format ?a_sign_bit ?l_sign_bit ?k1_sign_bit ?k2_sign_bit ?a_infinity_raw ?l_infinity_raw ?k1_infinity_raw ?k2_infinity_raw ?a_digits_of ?l_digits_of ?k1_digits_of ?k2_digits_of ?a_digits_behind_point ?l_digits_behind_point ?k1_digits_behind_point ?k2_digits_behind_point ?a_written ?l_written ?k1_written ?k2_written ?a_fits_width ?l_fits_width ?k1_fits_width ?k2_fits_width ?a_is_raw ?l_is_raw ?k1_is_raw ?k2_is_raw ?a_is_good ?l_is_good ?k1_is_good ?k2_is_good ?a_steps_of ?l_steps_of ?k1_steps_of ?k2_steps_of ?a_float_worth ?l_float_worth ?k1_float_worth ?k2_float_worth ?a_worth_of ?l_worth_of ?k1_worth_of ?k2_worth_of ?a_write ?l_write ?k1_write ?k2_write ?ac_Ratio ?a_Ratio_init ?n_Ratio_init ?l_Ratio_init ?k1_Ratio_init ?k2_Ratio_init ?pg_Ratio ?hd_Ratio ?po_Ratio ?sa_Ratio ?mk_Ratio ?kc_Ratio ?na_Ratio_top ?na_Ratio_bottom ?g_TRUTH ?g_SIGNED ?g_UNSIGNED ?g_FLOAT ?g_T ?g_F32 ?g_F64 ?g_WIDTHS ?h_WIDTHS ?i_WIDTHS ?g_FRACTION_BITS ?h_FRACTION_BITS ?i_FRACTION_BITS ?g_LOWEST_PLACES ?h_LOWEST_PLACES ?i_LOWEST_PLACES ?g_NOUGHT ?g_MINUS ?g_POINT ?g_WRONG_ARGUMENT ?n_abs ?n_len ?n_list ?n_reversed hmg
    (case a_kind_of => k_is)
    (case l_kind_of => k_is)
    (case k1_kind_of => k_is)
    (case k2_kind_of => k_is)
    (case a_width_of => k_is)
    (case l_width_of => k_is)
    (case k1_width_of => k_is)
    (case k2_width_of => k_is)
    (case a_point_of => k_is)
    (case l_point_of => k_is)
    (case k1_point_of => k_is)
    (case k2_point_of => k_is)
    (case a_is_format => k_is)
    (case l_is_format => k_is)
    (case k1_is_format => k_is)
    (case k2_is_format => k_is)
    (case a_sign_bit => k_is)
    (case l_sign_bit => k_is)
    (case k1_sign_bit => k_is)
    (case k2_sign_bit => k_is)
    (case a_infinity_raw => k_is)
    (case l_infinity_raw => k_is)
    (case k1_infinity_raw => k_is)
    (case k2_infinity_raw => k_is)
    (case a_digits_of => k_is)
    (case l_digits_of => k_is)
    (case k1_digits_of => k_is)
    (case k2_digits_of => k_is)
    (case a_digits_behind_point => k_is)
    (case l_digits_behind_point => k_is)
    (case k1_digits_behind_point => k_is)
    (case k2_digits_behind_point => k_is)
    (case a_written => k_is)
    (case l_written => k_is)
    (case k1_written => k_is)
    (case k2_written => k_is)
    (case a_fits_width => k_is)
    (case l_fits_width => k_is)
    (case k1_fits_width => k_is)
    (case k2_fits_width => k_is)
    (case a_is_raw => k_is)
    (case l_is_raw => k_is)
    (case k1_is_raw => k_is)
    (case k2_is_raw => k_is)
    (case a_is_good => k_is)
    (case l_is_good => k_is)
    (case k1_is_good => k_is)
    (case k2_is_good => k_is)
    (case a_steps_of => k_is)
    (case l_steps_of => k_is)
    (case k1_steps_of => k_is)
    (case k2_steps_of => k_is)
    (case a_float_worth => k_is)
    (case l_float_worth => k_is)
    (case k1_float_worth => k_is)
    (case k2_float_worth => k_is)
    (case a_worth_of => k_is)
    (case l_worth_of => k_is)
    (case k1_worth_of => k_is)
    (case k2_worth_of => k_is)
    (case a_write => k_is)
    (case l_write => k_is)
    (case k1_write => k_is)
    (case k2_write => k_is)
    (case ac_Ratio => k_is)
    (case a_Ratio_init => k_is)
    (case n_Ratio_init => k_is)
    (case l_Ratio_init => k_is)
    (case k1_Ratio_init => k_is)
    (case k2_Ratio_init => k_is)
    (case pg_Ratio => k_is)
    (case hd_Ratio => k_is)
    (case po_Ratio => k_is)
    (case sa_Ratio => k_is)
    (case mk_Ratio => k_is)
    (case kc_Ratio => k_is)
    (case na_Ratio_top => k_is)
    (case na_Ratio_bottom => k_is)
    (case g_TRUTH => k_is)
    (case g_SIGNED => k_is)
    (case g_UNSIGNED => k_is)
    (case g_FLOAT => k_is)
    (case g_T => k_is)
    (case g_F32 => k_is)
    (case g_F64 => k_is)
    (case g_WIDTHS => k_is)
    (case h_WIDTHS => k_is)
    (case i_WIDTHS => decide +kernel)
    (case g_FRACTION_BITS => k_is)
    (case h_FRACTION_BITS => k_is)
    (case i_FRACTION_BITS => decide +kernel)
    (case g_LOWEST_PLACES => k_is)
    (case h_LOWEST_PLACES => k_is)
    (case i_LOWEST_PLACES => decide +kernel)
    (case g_NOUGHT => k_is)
    (case g_MINUS => k_is)
    (case g_POINT => k_is)
    (case g_WRONG_ARGUMENT => k_is)
    (case n_abs => k_is)
    (case n_len => k_is)
    (case n_list => k_is)
    (case n_reversed => k_is)
  case S =>
    intro K H xs a hO hwi hask hx
    cases hx with
    | cons h1 hx =>
      cases h1
      cases hx with
      | cons h1 hx =>
        cases h1
        cases hx
        refine ⟨a.1, a.2.1, rfl, trivial, fun H' p hp => ?_⟩
        rw [Py.write_eq] at hp
        exact .lst (L2.SqL.of hp) (L2.dw_ints _)
