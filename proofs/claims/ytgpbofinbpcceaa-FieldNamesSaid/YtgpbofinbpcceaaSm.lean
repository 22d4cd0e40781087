/-
  RatioSmall returns true for all fractions and numbers. Conditions: none.
-/
import Derived.Test.YtgpbofinbpcceaaCon
namespace Go.Proofs.Ytgpbofinbpcceaa
open Go.RowKit
set_option maxRecDepth 100000
theorem IsRes.fits {p q N D E : Int} (h : IsRes p q N D E) (hq : 0 < q) (q1 : q ≤ 9223372036854775807) (p0 : -9223372036854775807 ≤ p) (p1 : p ≤ 9223372036854775807) :
    E = 0 ∧ okB N D = true ∧ I64 N ∧ I64 D ∧ N * q = p * D := by
  rcases h with h | ⟨_, _, _, h4⟩
  · exact h
  · exfalso
    obtain ⟨g, hg⟩ : ∃ g : Nat, g = Nat.gcd p.natAbs q.natAbs := ⟨_, rfl⟩
    have g0 : 0 < g := hg ▸ Nat.gcd_pos_of_pos_right _ (by omega)
    have e1 : p.tdiv g * g = p := Int.tdiv_mul_cancel (Int.ofNat_dvd_left.2 (hg ▸ Nat.gcd_dvd_left _ _))
    have e2 : q.tdiv g * g = q := Int.tdiv_mul_cancel (Int.ofNat_dvd_left.2 (hg ▸ Nat.gcd_dvd_right _ _))
    have n1 : (p.tdiv g).natAbs = p.natAbs / g := by rw [Int.natAbs_tdiv]; rfl
    have n2 : (q.tdiv g).natAbs = q.natAbs / g := by rw [Int.natAbs_tdiv]; rfl
    have b1 : p.natAbs / g ≤ p.natAbs := Nat.div_le_self _ _
    have b2 : q.natAbs / g ≤ q.natAbs := Nat.div_le_self _ _
    have cop : Nat.gcd (p.tdiv g).natAbs (q.tdiv g).natAbs = 1 := by
      have g0' := g0
      rw [hg] at g0'
      rw [n1, n2, hg]
      exact Nat.coprime_div_gcd_div_gcd g0'
    generalize p.tdiv (g : Int) = P at *
    generalize q.tdiv (g : Int) = Q at *
    have hQ : 0 < Q := by
      rcases Int.lt_trichotomy Q 0 with h' | h' | h'
      · have := Int.mul_neg_of_neg_of_pos h' (show (0 : Int) < g by omega); omega
      · subst h'; omega
      · exact h'
    refine h4 P Q (okB_iff.2 ⟨by omega, by omega, cop⟩) (by unfold I64; omega) (by unfold I64; omega) ?_
    rw [← e1, ← e2]
    ac_rfl
theorem IsRes.congr {p q p' q' N D E : Int} (h : IsRes p q N D E) (hq : q ≠ 0) (hq' : q' ≠ 0) (e : p * q' = p' * q) : IsRes p' q' N D E := by
  have key : ∀ n d : Int, n * q = p * d ↔ n * q' = p' * d := by
    intro n d
    constructor
    · intro h
      refine Int.eq_of_mul_eq_mul_right hq ?_
      grind
    · intro h
      refine Int.eq_of_mul_eq_mul_right hq' ?_
      grind
  rcases h with ⟨h1, h2, h3, h4, h5⟩ | ⟨h1, h2, h3, h4⟩
  · exact Or.inl ⟨h1, h2, h3, h4, (key _ _).1 h5⟩
  · exact Or.inr ⟨h1, h2, h3, fun n d a1 a2 a3 a4 => h4 n d a1 a2 a3 ((key _ _).2 a4)⟩
end Go.Proofs.Ytgpbofinbpcceaa
