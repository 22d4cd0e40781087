/-
  Events and agendas: lists of events, what an agenda that is valid is. Conditions: none.
-/
import Derived.Test.YtclpegneiomakaaGreatZg
import Derived.Test.YtclpegneiomakaaGreatW27
import Derived.Test.YtclpegneiomakaaGreatW29
namespace Go.Proofs.YtclpegneiomakaaGreat
open Go.RowKit
structure Ev where
  n : Int
  d : Int
  k : Int
  i : Int
  w : Int
deriving DecidableEq
abbrev eventV (x : Ev) : Value := .agg #[.int .i64 x.n, .int .i64 x.d, .int .i64 x.k, .int .i64 x.i, .int .i64 x.w]
abbrev handV (i w : Int) : Value := .agg #[.int .i64 i, .int .i64 w]
abbrev ecV (x : Ev) : List Value := [.int .i64 x.n, .int .i64 x.d, .int .i64 x.k, .int .i64 x.i, .int .i64 x.w]
def evsV : List Ev → List Value
  | [] => []
  | m :: r => .int .i64 m.n :: .int .i64 m.d :: .int .i64 m.k :: .int .i64 m.i :: .int .i64 m.w :: evsV r
abbrev rowE (l : List Ev) : SV := .row 43 5 l.length (evsV l)
theorem evsV_length : ∀ (l : List Ev), (evsV l).length = l.length * 5
  | [] => rfl
  | p :: r => by simp [evsV, evsV_length r]; omega
theorem evsV_get : ∀ {l : List Ev} {k : Nat} {m : Ev}, l[k]? = some m → (evsV l)[k * 5]? = some (.int .i64 m.n) ∧ (evsV l)[k * 5 + 1]? = some (.int .i64 m.d) ∧ (evsV l)[k * 5 + 2]? = some (.int .i64 m.k) ∧ (evsV l)[k * 5 + 3]? = some (.int .i64 m.i) ∧ (evsV l)[k * 5 + 4]? = some (.int .i64 m.w)
  | [], k, p, h => by simp at h
  | q :: r, 0, p, h => by simp at h; subst h; exact ⟨rfl, rfl, rfl, rfl, rfl⟩
  | q :: r, k + 1, p, h => by
    have := evsV_get (l := r) (k := k) (m := p) (by simpa using h)
    rw [show (k + 1) * 5 = k * 5 + 1 + 1 + 1 + 1 + 1 by omega]
    exact this
theorem ya_e {l : List Ev} {k : Nat} {m : Ev} (h : l[k]? = some m) : rowAt (evsV l) (0 * 5 + k * 5) (ecV m) := by
  obtain ⟨h1, h2, h3, h4, h5⟩ := evsV_get h
  intro j v hj
  rw [show 0 * 5 + k * 5 + j = k * 5 + j by omega]
  match j, hj with
  | 0, hj => cases hj; exact h1
  | 1, hj => cases hj; exact h2
  | 2, hj => cases hj; exact h3
  | 3, hj => cases hj; exact h4
  | 4, hj => cases hj; exact h5
  | j + 5, hj => simp at hj
theorem ya_k {l : List Ev} {k : Nat} {m : Ev} (h : l[k]? = some m) : rowAt (evsV l) (0 * 5 + k * 5 + 2) [.int .i64 m.k] := by
  obtain ⟨h1, h2, h3, h4, h5⟩ := evsV_get h
  intro j v hj
  match j, hj with
  | 0, hj => cases hj; rw [show 0 * 5 + k * 5 + 2 + 0 = k * 5 + 2 by omega]; exact h3
  | j + 1, hj => simp at hj
theorem ya_h {l : List Ev} {k : Nat} {m : Ev} (h : l[k]? = some m) : rowAt (evsV l) (0 * 5 + k * 5 + 3) [.int .i64 m.i, .int .i64 m.w] := by
  obtain ⟨h1, h2, h3, h4, h5⟩ := evsV_get h
  intro j v hj
  match j, hj with
  | 0, hj => cases hj; rw [show 0 * 5 + k * 5 + 3 + 0 = k * 5 + 3 by omega]; exact h4
  | 1, hj => cases hj; rw [show 0 * 5 + k * 5 + 3 + 1 = k * 5 + 4 by omega]; exact h5
  | j + 2, hj => simp at hj
theorem ya_i {l : List Ev} {k : Nat} {m : Ev} (h : l[k]? = some m) : rowAt (evsV l) (0 * 5 + k * 5 + 3 + 0) [.int .i64 m.i] := by
  obtain ⟨h1, h2, h3, h4, h5⟩ := evsV_get h
  intro j v hj
  match j, hj with
  | 0, hj => cases hj; rw [show 0 * 5 + k * 5 + 3 + 0 + 0 = k * 5 + 3 by omega]; exact h4
  | j + 1, hj => simp at hj
theorem setL_cons (a : Value) (xs us : List Value) (q : Nat) : setL (a :: xs) (q + 1) us = a :: setL xs q us := by
  unfold setL
  rw [show q + 1 + us.length = (q + us.length) + 1 by omega]
  rfl
theorem setL_five (a b c d e : Value) (xs us : List Value) (q : Nat) : setL (a :: b :: c :: d :: e :: xs) (q + 5) us = a :: b :: c :: d :: e :: setL xs q us := by
  rw [show q + 5 = q + 1 + 1 + 1 + 1 + 1 by omega, setL_cons, setL_cons, setL_cons, setL_cons, setL_cons]
theorem ys_e : ∀ (l : List Ev) (k : Nat) (x : Ev), k < l.length → evsV (l.set k x) = setL (evsV l) (0 * 5 + k * 5) (ecV x)
  | [], k, x, h => by simp at h
  | p :: r, 0, x, h => rfl
  | p :: r, k + 1, x, h => by
    have := ys_e r k x (by simpa using h)
    rw [show 0 * 5 + (k + 1) * 5 = (0 * 5 + k * 5) + 5 by omega]
    simp only [evsV, List.set_cons_succ]
    rw [setL_five, this]
theorem ys_f : ∀ (l : List Ev) (k : Nat) (m : Ev) (n d : Int), l[k]? = some m → evsV (l.set k ⟨n, d, m.k, m.i, m.w⟩) = setL (evsV l) (0 * 5 + k * 5 + 0) [.int .i64 n, .int .i64 d]
  | [], k, m, n, d, h => by simp at h
  | p :: r, 0, m, n, d, h => by simp at h; subst h; rfl
  | p :: r, k + 1, m, n, d, h => by
    have := ys_f r k m n d (by simpa using h)
    have e : 0 * 5 + (k + 1) * 5 + 0 = (0 * 5 + k * 5 + 0) + 5 := by omega
    rw [e, List.set_cons_succ]
    show _ :: _ :: _ :: _ :: _ :: evsV (r.set k _) = _
    rw [this]
    exact (setL_five _ _ _ _ _ _ _ _).symm
theorem ys_k : ∀ (l : List Ev) (k : Nat) (m : Ev) (z : Int), l[k]? = some m → evsV (l.set k ⟨m.n, m.d, z, m.i, m.w⟩) = setL (evsV l) (0 * 5 + k * 5 + 2) [.int .i64 z]
  | [], k, m, z, h => by simp at h
  | p :: r, 0, m, z, h => by simp at h; subst h; rfl
  | p :: r, k + 1, m, z, h => by
    have := ys_k r k m z (by simpa using h)
    rw [show 0 * 5 + (k + 1) * 5 + 2 = (0 * 5 + k * 5 + 2) + 5 by omega]
    simp only [evsV, List.set_cons_succ]
    rw [setL_five, this]
theorem ys_in (l : List Ev) (k : Nat) (h : k < l.length) : 0 * 5 + k * 5 + 5 ≤ (evsV l).length := by rw [evsV_length]; omega
theorem ysf_in (l : List Ev) (k : Nat) (h : k < l.length) : 0 * 5 + k * 5 + 0 + 2 ≤ (evsV l).length := by rw [evsV_length]; omega
theorem ysk_in (l : List Ev) (k : Nat) (h : k < l.length) : 0 * 5 + k * 5 + 2 + 1 ≤ (evsV l).length := by rw [evsV_length]; omega
theorem evs_one : ∀ (l : List Ev), ∀ v ∈ evsV l, v.oneCell' = true
  | [], v, h => by cases h
  | m :: r, v, h => by
    simp only [evsV, List.mem_cons] at h
    rcases h with rfl | rfl | rfl | rfl | rfl | h
    · rfl
    · rfl
    · rfl
    · rfl
    · rfl
    · exact evs_one r v h
theorem evsV_take : ∀ (l : List Ev) (k : Nat), (evsV l).take (k * 5) = evsV (l.take k)
  | [], k => by simp [evsV]
  | p :: r, 0 => by simp [evsV]
  | p :: r, k + 1 => by rw [show (k + 1) * 5 = k * 5 + 1 + 1 + 1 + 1 + 1 by omega]; simp [evsV, evsV_take r k]
abbrev agA (u : List Int) (b : List Bool) (fr : List Int) (ev : List Ev) (wh : List Int) : SV := .ag [.ls 0 u.length, .ls 1 b.length, .ls 2 fr.length, .ls 3 ev.length, .ls 4 wh.length]
abbrev agP (u : List Int) (b : List Bool) (fr : List Int) (ev : List Ev) (wh : List Int) : List (Nat × Nat × SV) := [(0, 0, zrI u), (1, 0, zrB b), (2, 0, zrI fr), (3, 0, rowE ev), (4, 0, zrI wh)]
def ltE (x y : Ev) : Bool := decide (x.n * y.d < y.n * x.d) || (decide (x.n * y.d = y.n * x.d) && decide (x.k < y.k))
def EvI (x : Ev) : Prop := I64 x.n ∧ I64 x.d
structure EvOk (x : Ev) : Prop where
  i : EvI x
  ok : okB x.n x.d = true
  k0 : 0 ≤ x.k
  k1 : x.k ≤ 1000000
theorem EvOk.pos {x : Ev} (h : EvOk x) : 0 < x.d := by have := (okB_iff.1 h.ok).1; omega
theorem ltE_irr (x : Ev) : ltE x x = false := by simp [ltE]
theorem mul_le_cancel {a b d : Int} (hd : 0 < d) (h : a * d ≤ b * d) : a ≤ b := Int.le_of_mul_le_mul_right h hd
/-- Not less, and not less, is not less. -/
theorem ltE_ntr {x y z : Ev} (hx : EvOk x) (hy : EvOk y) (hz : EvOk z) (h : ltE x y = false) (k : ltE y z = false) : ltE x z = false := by
  have px := hx.pos
  have py := hy.pos
  have pz := hz.pos
  simp only [ltE, Bool.or_eq_false_iff, Bool.and_eq_false_iff, decide_eq_false_iff_not] at h k ⊢
  obtain ⟨h1, h2⟩ := h
  obtain ⟨k1, k2⟩ := k
  have a1 : y.n * x.d ≤ x.n * y.d := by omega
  have a2 : z.n * y.d ≤ y.n * z.d := by omega
  -- z.n * y.d * x.d ≤ y.n * z.d * x.d ≤ x.n * y.d * z.d
  have b1 : z.n * y.d * x.d ≤ y.n * z.d * x.d := Int.mul_le_mul_of_nonneg_right a2 (Int.le_of_lt px)
  have b2 : y.n * x.d * z.d ≤ x.n * y.d * z.d := Int.mul_le_mul_of_nonneg_right a1 (Int.le_of_lt pz)
  have e1 : y.n * z.d * x.d = y.n * x.d * z.d := by rw [Int.mul_assoc, Int.mul_comm z.d, ← Int.mul_assoc]
  have e2 : z.n * y.d * x.d = z.n * x.d * y.d := by rw [Int.mul_assoc, Int.mul_comm y.d, ← Int.mul_assoc]
  have e3 : x.n * y.d * z.d = x.n * z.d * y.d := by rw [Int.mul_assoc, Int.mul_comm y.d, ← Int.mul_assoc]
  have c1 : z.n * x.d ≤ x.n * z.d := mul_le_cancel py (by rw [← e2, ← e3]; exact Int.le_trans b1 (by rw [e1]; exact b2))
  refine ⟨by omega, ?_⟩
  by_cases e : x.n * z.d = z.n * x.d
  · right
    have e4 : x.n * z.d * y.d = z.n * x.d * y.d := by rw [e]
    have e5 : x.n * y.d * z.d = z.n * y.d * x.d := by rw [e3, e4, e2]
    have f1 : z.n * y.d * x.d = y.n * z.d * x.d := Int.le_antisymm b1 (by rw [e1, ← e5]; exact b2)
    have f2 : y.n * x.d * z.d = x.n * y.d * z.d := by rw [← e1, ← f1, e5]
    have g1 : y.n * z.d = z.n * y.d := (Int.mul_eq_mul_right_iff (by omega)).1 f1.symm
    have g2 : x.n * y.d = y.n * x.d := (Int.mul_eq_mul_right_iff (by omega)).1 f2.symm
    rcases h2 with h2 | h2
    · exact (h2 g2).elim
    · rcases k2 with k2 | k2
      · exact (k2 g1).elim
      · omega
  · exact Or.inl e
/-- Less is not less the other way round. -/
theorem ltE_asym {x y : Ev} (h : ltE x y = true) : ltE y x = false := by
  simp only [ltE, Bool.or_eq_true, Bool.and_eq_true, decide_eq_true_eq, Bool.or_eq_false_iff, Bool.and_eq_false_iff, decide_eq_false_iff_not] at h ⊢
  rcases h with h | h
  · exact ⟨by omega, Or.inl (by omega)⟩
  · exact ⟨by omega, Or.inr (by omega)⟩
theorem ltE_tr {x y z : Ev} (hx : EvOk x) (hy : EvOk y) (hz : EvOk z) (h : ltE x y = true) (k : ltE y z = true) : ltE x z = true := by
  cases e : ltE x z with
  | true => rfl
  | false =>
    have := ltE_ntr hz hy hx (ltE_asym k) (ltE_asym h)
    -- not (z < x) and not (x < z)
    have f := ltE_ntr hy hz hx (ltE_ntr hy hz hz (by
      cases e2 : ltE y z with
      | false => rfl
      | true =>
        have g := ltE_ntr hx hz hy e (ltE_asym k)
        rw [h] at g; cases g) (ltE_irr z)) this
    have g := ltE_ntr hx hz hy e (ltE_asym k)
    rw [h] at g; cases g
end Go.Proofs.YtclpegneiomakaaGreat
