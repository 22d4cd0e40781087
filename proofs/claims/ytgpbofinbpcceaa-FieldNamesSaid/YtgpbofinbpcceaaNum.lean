/-
  Fractions as whole numbers: what Make, Mul, Add and Sub return is the one fraction in lowest terms, where there is one. Conditions: none.
-/
import Derived.Test.YtgpbofinbpcceaaG
import Derived.Test.YtgpbofinbpcceaaQ
namespace Go.Proofs.Ytgpbofinbpcceaa
/-- What a result has to do with p / q: the fraction in lowest terms; or out of range, and no valid fraction is it. -/
def IsRes (p q N D E : Int) : Prop :=
  (E = 0 ∧ okB N D = true ∧ I64 N ∧ I64 D ∧ N * q = p * D) ∨ (E = 16 ∧ N = 0 ∧ D = 0 ∧ ∀ n d, okB n d = true → I64 n → I64 d → n * q ≠ p * d)

theorem natAbs_gcd_dvd {T U n d : Int} (hU : 0 < U) (hd : 0 < d) (h1 : Nat.gcd T.natAbs U.natAbs = 1) (h2 : Nat.gcd n.natAbs d.natAbs = 1) (h : T * d = n * U) : T = n ∧ U = d := by
  have e : T.natAbs * d.natAbs = n.natAbs * U.natAbs := by rw [← Int.natAbs_mul, ← Int.natAbs_mul, h]
  have a1 : U.natAbs ∣ d.natAbs := Nat.Coprime.dvd_of_dvd_mul_left (show Nat.Coprime U.natAbs T.natAbs by rw [Nat.coprime_comm]; exact h1) ⟨n.natAbs, by rw [e, Nat.mul_comm]⟩
  have a2 : d.natAbs ∣ U.natAbs := Nat.Coprime.dvd_of_dvd_mul_left (show Nat.Coprime d.natAbs n.natAbs by rw [Nat.coprime_comm]; exact h2) ⟨T.natAbs, by rw [← e, Nat.mul_comm]⟩
  have a3 := Nat.dvd_antisymm a1 a2
  have hUd : U = d := by omega
  subst hUd
  exact ⟨Int.eq_of_mul_eq_mul_right (by omega) h, rfl⟩
theorem okB_iff {n d : Int} : okB n d = true ↔ 1 ≤ d ∧ n ≠ -9223372036854775808 ∧ Nat.gcd n.natAbs d.natAbs = 1 := by simp [okB]
theorem okB_one {n d n' d' : Int} (h1 : okB n d = true) (h2 : okB n' d' = true) (h : n * d' = n' * d) : n = n' ∧ d = d' := by
  obtain ⟨a1, _, a2⟩ := okB_iff.1 h1
  obtain ⟨b1, _, b2⟩ := okB_iff.1 h2
  exact natAbs_gcd_dvd (by omega) (by omega) a2 b2 h
theorem sgV_int (T : Int) (h : fitB T.natAbs = true) : sgV T.natAbs (decide (T < 0)) = T := by
  have h' : T.natAbs < 9223372036854775808 := by simpa [fitB] using h
  unfold sgV
  rw [if_pos h']
  by_cases ht : T < 0
  · simp [ht]; omega
  · simp [ht]; omega
theorem isRes_of {p q T U : Int} (hq : q ≠ 0) (hU : 0 < U) (hg : Nat.gcd T.natAbs U.natAbs = 1) (h : T * q = p * U) :
    IsRes p q (selI (fitB T.natAbs && fitB U.natAbs) (sgV T.natAbs (decide (T < 0)))) (selI (fitB T.natAbs && fitB U.natAbs) (sgV U.natAbs (decide (U < 0)))) (selE (fitB T.natAbs && fitB U.natAbs)) := by
  cases hf : (fitB T.natAbs && fitB U.natAbs)
  · refine Or.inr ⟨rfl, rfl, rfl, fun n d hk hn hd he => ?_⟩
    obtain ⟨a1, a2, a3⟩ := okB_iff.1 hk
    have e : T * d = n * U := by
      refine Int.eq_of_mul_eq_mul_right hq ?_
      rw [Int.mul_right_comm, h, Int.mul_right_comm n U q, he, Int.mul_right_comm]
    obtain ⟨rfl, rfl⟩ := natAbs_gcd_dvd hU (by omega) hg a3 e
    unfold I64 at hn hd
    have : (fitB T.natAbs && fitB U.natAbs) = true := by simp [fitB]; omega
    rw [hf] at this
    cases this
  · simp only [Bool.and_eq_true] at hf
    have h1 : T.natAbs < 9223372036854775808 := by simpa [fitB] using hf.1
    have h2 : U.natAbs < 9223372036854775808 := by simpa [fitB] using hf.2
    refine Or.inl ⟨rfl, ?_, ?_, ?_, ?_⟩
    · simp only [selI, if_true, sgV_int T hf.1, sgV_int U hf.2]
      exact okB_iff.2 ⟨by omega, by omega, hg⟩
    · simp only [selI, if_true, sgV_int T hf.1]; unfold I64; omega
    · simp only [selI, if_true, sgV_int U hf.2]; unfold I64; omega
    · simp only [selI, if_true, sgV_int T hf.1, sgV_int U hf.2]; exact h

theorem mk_res {a b : Int} (hb : b ≠ 0) : IsRes a b (mkN a b) (mkD a b) (mkE a b) := by
  obtain ⟨g, hg⟩ : ∃ g : Nat, g = Nat.gcd a.natAbs b.natAbs := ⟨_, rfl⟩
  have g0 : 0 < g := hg ▸ Nat.gcd_pos_of_pos_right _ (by omega)
  have eA : mkQ a b * g = a.natAbs := by unfold mkQ; rw [hg]; exact Nat.div_mul_cancel (Nat.gcd_dvd_left _ _)
  have eB : mkP a b * g = b.natAbs := by unfold mkP; rw [hg]; exact Nat.div_mul_cancel (Nat.gcd_dvd_right _ _)
  have cop : Nat.gcd (mkQ a b) (mkP a b) = 1 := by unfold mkQ mkP; exact Nat.coprime_div_gcd_div_gcd (hg ▸ g0)
  have hp0 : 0 < mkP a b := by
    rcases Nat.eq_zero_or_pos (mkP a b) with h | h
    · rw [h] at eB; omega
    · exact h
  obtain ⟨Q, hQ⟩ : ∃ Q : Int, Q = if mkS a b then -(mkQ a b : Int) else mkQ a b := ⟨_, rfl⟩
  have nQ : Q.natAbs = mkQ a b := by rw [hQ]; split <;> omega
  have heq : Q * b = a * (mkP a b : Nat) := by
    have eA' : ((mkQ a b : Nat) : Int) * (g : Int) = (a.natAbs : Int) := by rw [← Int.natCast_mul, eA]
    have eB' : ((mkP a b : Nat) : Int) * (g : Int) = (b.natAbs : Int) := by rw [← Int.natCast_mul, eB]
    refine Int.eq_of_mul_eq_mul_right (show (g : Int) ≠ 0 by omega) ?_
    rw [Int.mul_right_comm, Int.mul_assoc a, eB', hQ]
    unfold mkS
    by_cases ha : a < 0 <;> by_cases hb' : b < 0 <;> simp [ha, hb', Int.neg_mul, eA']
    · rw [show (a.natAbs : Int) = -a by omega, show (b.natAbs : Int) = -b by omega, Int.neg_mul, Int.mul_neg]
    · rw [show (a.natAbs : Int) = -a by omega, show (b.natAbs : Int) = b by omega, Int.neg_mul, Int.neg_neg]
    · rw [show (a.natAbs : Int) = a by omega, show (b.natAbs : Int) = -b by omega, Int.mul_neg]
    · rw [show (a.natAbs : Int) = a by omega, show (b.natAbs : Int) = b by omega]
  have fin := isRes_of (p := a) (q := b) (T := Q) (U := (mkP a b : Nat)) hb (by omega) (by rw [nQ]; exact cop) heq
  have u1 : mkN a b = selI (fitB Q.natAbs && fitB ((mkP a b : Nat) : Int).natAbs) (sgV Q.natAbs (decide (Q < 0))) := by
    unfold mkN mkF
    rw [if_neg hb, nQ, show ((mkP a b : Nat) : Int).natAbs = mkP a b from rfl]
    have : sgV (mkQ a b) (mkS a b) = sgV (mkQ a b) (decide (Q < 0)) := by
      unfold sgV
      split
      · cases hs : mkS a b
        · rw [hs] at hQ
          have hQ' : Q = mkQ a b := by simpa using hQ
          have : decide (Q < 0) = false := by simp; omega
          rw [this]
        · rw [hs] at hQ
          have hQ' : Q = -(mkQ a b : Int) := by simpa using hQ
          by_cases h0 : mkQ a b = 0
          · rw [h0]; simp
          · have : decide (Q < 0) = true := by simp; omega
            rw [this]
      · rfl
    rw [this]
  have u2 : mkD a b = selI (fitB Q.natAbs && fitB ((mkP a b : Nat) : Int).natAbs) (sgV ((mkP a b : Nat) : Int).natAbs (decide (((mkP a b : Nat) : Int) < 0))) := by
    unfold mkD mkF
    rw [if_neg hb, nQ, show ((mkP a b : Nat) : Int).natAbs = mkP a b from rfl, show decide (((mkP a b : Nat) : Int) < 0) = false by simp]
  have u3 : mkE a b = selE (fitB Q.natAbs && fitB ((mkP a b : Nat) : Int).natAbs) := by
    unfold mkE mkF
    rw [if_neg hb, nQ, show ((mkP a b : Nat) : Int).natAbs = mkP a b from rfl]
  rw [u1, u2, u3]
  exact fin
end Go.Proofs.Ytgpbofinbpcceaa
