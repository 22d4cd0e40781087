/-
  Plain numbers: lengths in bits, halves, and a quotient that is found by two digits.
-/
import Derived.Lib.BitFns
import Derived.Laws.BitsAllLaws
import Derived.Laws.MathBits
namespace Go.Proofs.Ytjhkeinelbeekaa

theorem bitLenAux_zero (f : Nat) : Lib.bitLenAux f 0 = 0 := by cases f <;> simp [Lib.bitLenAux]
theorem bitLenAux_bd : ∀ (f x : Nat), x < 2 ^ f → x < 2 ^ Lib.bitLenAux f x ∧ (x ≠ 0 → 2 ^ (Lib.bitLenAux f x - 1) ≤ x ∧ 1 ≤ Lib.bitLenAux f x) ∧ Lib.bitLenAux f x ≤ f := by
  intro f
  induction f with
  | zero => intro x h; simp [Lib.bitLenAux] at h ⊢; omega
  | succ f ih =>
    intro x h
    by_cases hx : x = 0
    · subst hx; simp [Lib.bitLenAux]
    · obtain ⟨h1, h2, h3⟩ := ih (x / 2) (by rw [Nat.pow_succ] at h; omega)
      simp only [Lib.bitLenAux, if_neg hx]
      generalize hk0 : Lib.bitLenAux f (x / 2) = k at *
      refine ⟨by rw [Nat.add_comm, Nat.pow_succ]; omega, fun _ => ⟨?_, by omega⟩, by omega⟩
      rw [Nat.add_sub_cancel_left]
      by_cases hk : x / 2 = 0
      · have : k = 0 := by rw [← hk0, hk]; exact bitLenAux_zero f
        subst this
        simp; omega
      · obtain ⟨h4, h5⟩ := h2 hk
        obtain ⟨j, rfl⟩ : ∃ j, k = j + 1 := ⟨k - 1, by omega⟩
        rw [Nat.add_sub_cancel] at h4
        rw [Nat.pow_succ]
        omega
theorem bitLen_bd (x : Nat) (h0 : 0 < x) (h : x < 18446744073709551616) : x < 2 ^ Lib.bitLen x ∧ 2 ^ (Lib.bitLen x - 1) ≤ x ∧ 1 ≤ Lib.bitLen x ∧ Lib.bitLen x ≤ 64 := by
  obtain ⟨h1, h2, h3⟩ := bitLenAux_bd 64 x h
  exact ⟨h1, (h2 (by omega)).1, (h2 (by omega)).2, h3⟩
theorem shifted (y : Nat) (h0 : 0 < y) (h : y < 18446744073709551616) : 9223372036854775808 ≤ y * 2 ^ (64 - Lib.bitLen y) ∧ y * 2 ^ (64 - Lib.bitLen y) < 18446744073709551616 ∧ 64 - Lib.bitLen y ≤ 63 ∧ Lib.bitLen y ≤ 64 := by
  obtain ⟨h1, h2, h3, h4⟩ := bitLen_bd y h0 h
  generalize Lib.bitLen y = b at *
  have e1 : 2 ^ (b - 1) * 2 ^ (64 - b) = 9223372036854775808 := by rw [← Nat.pow_add, show b - 1 + (64 - b) = 63 by omega]
  have e2 : 2 ^ b * 2 ^ (64 - b) = 18446744073709551616 := by rw [← Nat.pow_add, show b + (64 - b) = 64 by omega]
  have p : 0 < 2 ^ (64 - b) := Nat.pow_pos (by omega)
  exact ⟨e1 ▸ Nat.mul_le_mul_right _ h2, e2 ▸ Nat.mul_lt_mul_of_pos_right h1 p, by omega, h4⟩
/-- The upper part, shifted: the halves joined by 'or' are a sum. -/
theorem or_sum {hi lo s A : Nat} (hA : hi * 2 ^ s = A) (hs : s ≤ 63) (hlo : lo < 18446744073709551616) (hA1 : A < 18446744073709551616) :
    bits BinOp.or IntKind.u64 (A : Int) ((lo : Int) / 2 ^ (64 - s)) = ((A + lo / 2 ^ (64 - s) : Nat) : Int) := by
  have e : (lo : Int) / 2 ^ (64 - s) = ((lo / 2 ^ (64 - s) : Nat) : Int) := by push_cast; rfl
  have hl : lo / 2 ^ (64 - s) < 2 ^ s := by
    apply Nat.div_lt_of_lt_mul
    rw [← Nat.pow_add, show 64 - s + s = 64 by omega]
    exact hlo
  have hl2 : lo / 2 ^ (64 - s) ≤ lo := Nat.div_le_self _ _
  rw [e, u64_or_nat _ _ hA1 (by omega)]
  congr 1
  rw [← hA, Nat.mul_comm hi, ← Nat.two_pow_add_eq_or_of_lt hl]
/-- Two digits make the quotient, and the rest. -/
theorem digits {hi lo y s Y U L l1 l0 Q1 V Q0 R : Nat} (hy : 0 < y) (hlo : lo < 18446744073709551616) (hs : s ≤ 63) (hY : y * 2 ^ s = Y) (hU : U = hi * 2 ^ s + lo / 2 ^ (64 - s)) (hL : L = lo * 2 ^ s % 18446744073709551616)
    (h1 : l1 = L / 4294967296) (h0 : l0 = L % 4294967296) (hq1 : Q1 = (U * 4294967296 + l1) / Y) (hv : V = (U * 4294967296 + l1) % Y) (hq0 : Q0 = (V * 4294967296 + l0) / Y) (hr : R = (V * 4294967296 + l0) % Y) :
    (hi * 18446744073709551616 + lo) / y = Q1 * 4294967296 + Q0 ∧ (hi * 18446744073709551616 + lo) % y = R / 2 ^ s := by
  have p : 0 < 2 ^ s := Nat.pow_pos (by omega)
  have pY : 0 < Y := hY ▸ Nat.mul_pos hy p
  have e1 : lo * 2 ^ s = lo / 2 ^ (64 - s) * 18446744073709551616 + L := by
    have d : lo * 2 ^ s / 18446744073709551616 = lo / 2 ^ (64 - s) := by
      have : (18446744073709551616 : Nat) = 2 ^ (64 - s) * 2 ^ s := by rw [← Nat.pow_add, show 64 - s + s = 64 by omega]
      rw [this, Nat.mul_div_mul_right _ _ p]
    have := Nat.div_add_mod (lo * 2 ^ s) 18446744073709551616
    rw [d, ← hL] at this
    omega
  have m1 := Nat.div_add_mod (U * 4294967296 + l1) Y
  rw [← hq1, ← hv] at m1
  have m0 := Nat.div_add_mod (V * 4294967296 + l0) Y
  rw [← hq0, ← hr] at m0
  have rl : R < Y := hr ▸ Nat.mod_lt _ pY
  have e2 : (hi * 18446744073709551616 + lo) * 2 ^ s = Y * (Q1 * 4294967296 + Q0) + R := by
    have a1 : (hi * 18446744073709551616 + lo) * 2 ^ s = hi * 2 ^ s * 18446744073709551616 + lo * 2 ^ s := by rw [Nat.add_mul, Nat.mul_right_comm]
    have a2 : Y * (Q1 * 4294967296 + Q0) = Y * Q1 * 4294967296 + Y * Q0 := by rw [Nat.mul_add, Nat.mul_assoc]
    rw [a1, e1, a2]
    generalize Y * Q1 = a at *
    generalize Y * Q0 = b at *
    generalize hi * 2 ^ s = c at *
    generalize lo / 2 ^ (64 - s) = t at *
    omega
  constructor
  · rw [← Nat.mul_div_mul_right _ _ p, hY, e2, Nat.mul_add_div pY, Nat.div_eq_of_lt rl, Nat.add_zero]
  · have := Nat.mul_mod_mul_right (2 ^ s) (hi * 18446744073709551616 + lo) y
    rw [hY, e2, Nat.mul_add_mod, Nat.mod_eq_of_lt rl] at this
    rw [this, Nat.mul_div_cancel _ p]
end Go.Proofs.Ytjhkeinelbeekaa
