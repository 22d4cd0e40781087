/-
  Fractions as whole numbers: what Make, Mul, Add and Sub return is the one fraction in lowest terms, where there is one. Conditions: none.
-/
import Derived.Test.YtpngjeloiifgnaaGreatW4
import Derived.Test.YtpngjeloiifgnaaGreatW26
namespace Go.Proofs.YtpngjeloiifgnaaGreat
/-- What a result has to do with p / q: the fraction in lowest terms; or out of range, and no valid fraction is it. -/
def IsRes (p q N D E : Int) : Prop :=
  (E = 0 ∧ okB N D = true ∧ I64 N ∧ I64 D ∧ N * q = p * D) ∨ (E = 16 ∧ N = 0 ∧ D = 0 ∧ ∀ n d, okB n d = true → I64 n → I64 d → n * q ≠ p * d)

theorem natAbs_gcd_dvd {T U n d : Int} (hU : 0 < U) (hd : 0 < d) (h1 : Nat.gcd T.natAbs U.natAbs = 1) (h2 : Nat.gcd n.natAbs d.natAbs = 1) (h : T * d = n * U) : T = n ∧ U = d := by
  have e : T.natAbs * d.natAbs = n.natAbs * U.natAbs := by rw [← Int.natAbs_mul, ← Int.natAbs_mul, h]
  have a1 : U.natAbs ∣ d.natAbs := Nat.Coprime.dvd_of_dvd_mul_left (show Nat.Coprime U.natAbs T.natAbs by rw [Nat.coprime_comm]; exact h1) ⟨n.natAbs, by rw [e, Nat.mul_comm]⟩
  have a2 : d.natAbs ∣ U.natAbs := Nat.Coprime.dvd_of_dvd_mul_left (show Nat.Coprime d.natAbs n.natAbs by rw [Nat.coprime_comm]; exact h2) ⟨T.natAbs, by rw [← e, Nat.mul_comm]⟩
  have a3 := Nat.dvd_antisymm a1 a2
  have hUd : U = d := by omega
  subst hUd
  exact ⟨Int.eq_of_mul_eq_mul_right (by omega) h, rfl⟩
theorem okB_iff {n d : Int} : okB n d = true ↔ 1 ≤ d ∧ n ≠ -9223372036854775808 ∧ Nat.gcd n.natAbs d.natAbs = 1 := by simp [okB]
theorem okB_one {n d n' d' : Int} (h1 : okB n d = true) (h2 : okB n' d' = true) (h : n * d' = n' * d) : n = n' ∧ d = d' := by
  obtain ⟨a1, _, a2⟩ := okB_iff.1 h1
  obtain ⟨b1, _, b2⟩ := okB_iff.1 h2
  exact natAbs_gcd_dvd (by omega) (by omega) a2 b2 h
theorem sgV_int (T : Int) (h : fitB T.natAbs = true) : sgV T.natAbs (decide (T < 0)) = T := by
  have h' : T.natAbs < 9223372036854775808 := by simpa [fitB] using h
  unfold sgV
  rw [if_pos h']
  by_cases ht : T < 0
  · simp [ht]; omega
  · simp [ht]; omega
theorem isRes_of {p q T U : Int} (hq : q ≠ 0) (hU : 0 < U) (hg : Nat.gcd T.natAbs U.natAbs = 1) (h : T * q = p * U) :
    IsRes p q (selI (fitB T.natAbs && fitB U.natAbs) (sgV T.natAbs (decide (T < 0)))) (selI (fitB T.natAbs && fitB U.natAbs) (sgV U.natAbs (decide (U < 0)))) (selE (fitB T.natAbs && fitB U.natAbs)) := by
  cases hf : (fitB T.natAbs && fitB U.natAbs)
  · refine Or.inr ⟨rfl, rfl, rfl, fun n d hk hn hd he => ?_⟩
    obtain ⟨a1, a2, a3⟩ := okB_iff.1 hk
    have e : T * d = n * U := by
      refine Int.eq_of_mul_eq_mul_right hq ?_
      rw [Int.mul_right_comm, h, Int.mul_right_comm n U q, he, Int.mul_right_comm]
    obtain ⟨rfl, rfl⟩ := natAbs_gcd_dvd hU (by omega) hg a3 e
    unfold I64 at hn hd
    have : (fitB T.natAbs && fitB U.natAbs) = true := by simp [fitB]; omega
    rw [hf] at this
    cases this
  · simp only [Bool.and_eq_true] at hf
    have h1 : T.natAbs < 9223372036854775808 := by simpa [fitB] using hf.1
    have h2 : U.natAbs < 9223372036854775808 := by simpa [fitB] using hf.2
    refine Or.inl ⟨rfl, ?_, ?_, ?_, ?_⟩
    · simp only [selI, if_true, sgV_int T hf.1, sgV_int U hf.2]
      exact okB_iff.2 ⟨by omega, by omega, hg⟩
    · simp only [selI, if_true, sgV_int T hf.1]; unfold I64; omega
    · simp only [selI, if_true, sgV_int U hf.2]; unfold I64; omega
    · simp only [selI, if_true, sgV_int T hf.1, sgV_int U hf.2]; exact h

theorem muF_res {a b c d : Int} (h1 : okB a b = true) (h2 : okB c d = true) : IsRes (a * c) (b * d) (muN a b c d) (muD a b c d) (selE (muF a b c d)) := by
  obtain ⟨b1, _, g1⟩ := okB_iff.1 h1
  obtain ⟨d1, _, g2⟩ := okB_iff.1 h2
  have hg0 : 0 < Nat.gcd a.natAbs d.natAbs := Nat.gcd_pos_of_pos_right _ (by omega)
  have hh0 : 0 < Nat.gcd c.natAbs b.natAbs := Nat.gcd_pos_of_pos_right _ (by omega)
  have dA : ((Nat.gcd a.natAbs d.natAbs : Nat) : Int) ∣ a := Int.ofNat_dvd_left.2 (Nat.gcd_dvd_left _ _)
  have dD : ((Nat.gcd a.natAbs d.natAbs : Nat) : Int) ∣ d := Int.ofNat_dvd_left.2 (Nat.gcd_dvd_right _ _)
  have dC : ((Nat.gcd c.natAbs b.natAbs : Nat) : Int) ∣ c := Int.ofNat_dvd_left.2 (Nat.gcd_dvd_left _ _)
  have dB : ((Nat.gcd c.natAbs b.natAbs : Nat) : Int) ∣ b := Int.ofNat_dvd_left.2 (Nat.gcd_dvd_right _ _)
  have eA : muA a d * (Nat.gcd a.natAbs d.natAbs : Nat) = a := Int.tdiv_mul_cancel dA
  have eD : muB a d * (Nat.gcd a.natAbs d.natAbs : Nat) = d := Int.tdiv_mul_cancel dD
  have eC : muA c b * (Nat.gcd c.natAbs b.natAbs : Nat) = c := Int.tdiv_mul_cancel dC
  have eB : muB c b * (Nat.gcd c.natAbs b.natAbs : Nat) = b := Int.tdiv_mul_cancel dB
  have nA : (muA a d).natAbs = a.natAbs / Nat.gcd a.natAbs d.natAbs := by unfold muA; rw [Int.natAbs_tdiv]; rfl
  have nD : (muB a d).natAbs = d.natAbs / Nat.gcd a.natAbs d.natAbs := by unfold muB; rw [Int.natAbs_tdiv]; rfl
  have nC : (muA c b).natAbs = c.natAbs / Nat.gcd c.natAbs b.natAbs := by unfold muA; rw [Int.natAbs_tdiv]; rfl
  have nB : (muB c b).natAbs = b.natAbs / Nat.gcd c.natAbs b.natAbs := by unfold muB; rw [Int.natAbs_tdiv]; rfl
  have cAD : Nat.Coprime (muA a d).natAbs (muB a d).natAbs := by rw [nA, nD]; exact Nat.coprime_div_gcd_div_gcd hg0
  have cCB : Nat.Coprime (muA c b).natAbs (muB c b).natAbs := by rw [nC, nB]; exact Nat.coprime_div_gcd_div_gcd hh0
  have vA : (muA a d).natAbs ∣ a.natAbs := ⟨Nat.gcd a.natAbs d.natAbs, by rw [nA]; exact (Nat.div_mul_cancel (Nat.gcd_dvd_left _ _)).symm⟩
  have vD : (muB a d).natAbs ∣ d.natAbs := ⟨Nat.gcd a.natAbs d.natAbs, by rw [nD]; exact (Nat.div_mul_cancel (Nat.gcd_dvd_right _ _)).symm⟩
  have vC : (muA c b).natAbs ∣ c.natAbs := ⟨Nat.gcd c.natAbs b.natAbs, by rw [nC]; exact (Nat.div_mul_cancel (Nat.gcd_dvd_left _ _)).symm⟩
  have vB : (muB c b).natAbs ∣ b.natAbs := ⟨Nat.gcd c.natAbs b.natAbs, by rw [nB]; exact (Nat.div_mul_cancel (Nat.gcd_dvd_right _ _)).symm⟩
  have cAB : Nat.Coprime (muA a d).natAbs (muB c b).natAbs := Nat.Coprime.coprime_dvd_left vA (Nat.Coprime.coprime_dvd_right vB g1)
  have cCD : Nat.Coprime (muA c b).natAbs (muB a d).natAbs := Nat.Coprime.coprime_dvd_left vC (Nat.Coprime.coprime_dvd_right vD g2)
  have pD : 0 < muB a d := by
    rcases Int.lt_trichotomy (muB a d) 0 with h | h | h
    · have := Int.mul_neg_of_neg_of_pos h (show (0 : Int) < (Nat.gcd a.natAbs d.natAbs : Nat) by omega); omega
    · rw [h] at eD; omega
    · exact h
  have pB : 0 < muB c b := by
    rcases Int.lt_trichotomy (muB c b) 0 with h | h | h
    · have := Int.mul_neg_of_neg_of_pos h (show (0 : Int) < (Nat.gcd c.natAbs b.natAbs : Nat) by omega); omega
    · rw [h] at eB; omega
    · exact h
  have hq : b * d ≠ 0 := Int.mul_ne_zero (by omega) (by omega)
  have hU : 0 < muU a b c d := Int.mul_pos pB pD
  have hcop : Nat.gcd (muT a b c d).natAbs (muU a b c d).natAbs = 1 := by
    unfold muT muU
    rw [Int.natAbs_mul, Int.natAbs_mul]
    exact Nat.Coprime.mul_left (Nat.Coprime.mul_right cAB cAD) (Nat.Coprime.mul_right cCB cCD)
  have heq : muT a b c d * (b * d) = a * c * muU a b c d := by
    unfold muT muU
    generalize muA a d = A at *
    generalize muA c b = C at *
    generalize muB a d = D at *
    generalize muB c b = B at *
    generalize ((Nat.gcd a.natAbs d.natAbs : Nat) : Int) = g at *
    generalize ((Nat.gcd c.natAbs b.natAbs : Nat) : Int) = h at *
    rw [← eA, ← eB, ← eC, ← eD]
    ac_rfl
  exact isRes_of hq hU hcop heq

theorem smF_res {a b c d : Int} (h1 : okB a b = true) (h2 : okB c d = true) : IsRes (a * d + c * b) (b * d) (smN a b c d) (smD a b c d) (selE (smF a b c d)) := by
  obtain ⟨b1, _, g1⟩ := okB_iff.1 h1
  obtain ⟨d1, _, g2⟩ := okB_iff.1 h2
  obtain ⟨g, hg⟩ : ∃ g : Nat, g = smG b d := ⟨_, rfl⟩
  obtain ⟨l, hl⟩ : ∃ l : Int, b.tdiv (g : Int) = l := ⟨_, rfl⟩
  obtain ⟨r, hr⟩ : ∃ r : Int, d.tdiv (g : Int) = r := ⟨_, rfl⟩
  obtain ⟨T, hT⟩ : ∃ T : Int, a * r + c * l = T := ⟨_, rfl⟩
  obtain ⟨k, hk⟩ : ∃ k : Nat, k = Nat.gcd (T.natAbs % g) g := ⟨_, rfl⟩
  obtain ⟨e, he⟩ : ∃ e : Int, d.tdiv (k : Int) = e := ⟨_, rfl⟩
  have eT : smT a b c d = T := by rw [← hT, ← hl, ← hr, hg]; rfl
  have eK : smK a b c d = k := by unfold smK; rw [eT, ← hg, ← hk]
  have eU : smU a b c d = l * e := by unfold smU; rw [← hg, eK, hl, he]
  have g0 : 0 < g := hg ▸ Nat.gcd_pos_of_pos_right _ (by omega)
  have k0 : 0 < k := hk ▸ Nat.gcd_pos_of_pos_right _ g0
  have hk' : k = Nat.gcd T.natAbs g := by rw [hk, ← Nat.gcd_rec, Nat.gcd_comm]
  have dvB : (g : Int) ∣ b := Int.ofNat_dvd_left.2 (hg ▸ Nat.gcd_dvd_left _ _)
  have dvD : (g : Int) ∣ d := Int.ofNat_dvd_left.2 (hg ▸ Nat.gcd_dvd_right _ _)
  have kg : k ∣ g := hk' ▸ Nat.gcd_dvd_right _ _
  have kT : (k : Int) ∣ T := Int.ofNat_dvd_left.2 (hk' ▸ Nat.gcd_dvd_left _ _)
  have kD : (k : Int) ∣ d := Int.dvd_trans (Int.natCast_dvd_natCast.2 kg) dvD
  have eB : l * g = b := by rw [← hl]; exact Int.tdiv_mul_cancel dvB
  have eD : r * g = d := by rw [← hr]; exact Int.tdiv_mul_cancel dvD
  have eE : e * k = d := by rw [← he]; exact Int.tdiv_mul_cancel kD
  have pos : ∀ {x : Int} {m : Nat} {y : Int}, x * m = y → 0 < y → 0 < x := by
    intro x m y h1 h2
    rcases Int.lt_trichotomy x 0 with h | h | h
    · have := Int.mul_le_mul_of_nonneg_right (show x ≤ 0 by omega) (show (0 : Int) ≤ m by omega); omega
    · rw [h] at h1; omega
    · exact h
  have lp := pos eB (by omega)
  have rp := pos eD (by omega)
  have ep := pos eE (by omega)
  have nL : l.natAbs * g = b.natAbs := by rw [← eB, Int.natAbs_mul]; rfl
  have nR : r.natAbs * g = d.natAbs := by rw [← eD, Int.natAbs_mul]; rfl
  have nE : e.natAbs * k = d.natAbs := by rw [← eE, Int.natAbs_mul]; rfl
  have nl : l.natAbs = b.natAbs / g := by rw [← nL]; exact (Nat.mul_div_cancel _ g0).symm
  have nr : r.natAbs = d.natAbs / g := by rw [← nR]; exact (Nat.mul_div_cancel _ g0).symm
  have clr : Nat.Coprime l.natAbs r.natAbs := by
    have g0' := g0
    rw [hg] at g0'
    rw [nl, nr, hg]
    exact Nat.coprime_div_gcd_div_gcd g0'
  have cal : Nat.Coprime a.natAbs l.natAbs := Nat.Coprime.coprime_dvd_right ⟨g, nL.symm⟩ g1
  have ccr : Nat.Coprime c.natAbs r.natAbs := Nat.Coprime.coprime_dvd_right ⟨g, nR.symm⟩ g2
  have cTl : Nat.Coprime T.natAbs l.natAbs := by
    show Int.gcd T l = 1
    rw [← hT, Int.gcd_add_mul_right_left]
    show Nat.gcd (a * r).natAbs l.natAbs = 1
    rw [Int.natAbs_mul]
    exact Nat.Coprime.mul_left cal clr.symm
  have cTr : Nat.Coprime T.natAbs r.natAbs := by
    show Int.gcd T r = 1
    rw [← hT, Int.add_comm, Int.gcd_add_mul_right_left]
    show Nat.gcd (c * l).natAbs r.natAbs = 1
    rw [Int.natAbs_mul]
    exact Nat.Coprime.mul_left ccr clr
  have hTk : T.natAbs / k * k = T.natAbs := Nat.div_mul_cancel (hk' ▸ Nat.gcd_dvd_left _ _)
  have cop : Nat.Coprime (T.natAbs / k) (l.natAbs * e.natAbs) := by
    have vT : T.natAbs / k ∣ T.natAbs := ⟨k, hTk.symm⟩
    refine Nat.Coprime.mul_right (Nat.Coprime.coprime_dvd_left vT cTl) ?_
    have : e.natAbs = r.natAbs * (g / k) := by
      have h3 : r.natAbs * (g / k) * k = d.natAbs := by rw [Nat.mul_assoc, Nat.div_mul_cancel kg, nR]
      exact Nat.eq_of_mul_eq_mul_right k0 (by rw [nE, h3])
    rw [this]
    refine Nat.Coprime.mul_right (Nat.Coprime.coprime_dvd_left vT cTr) ?_
    rw [hk']
    exact Nat.coprime_div_gcd_div_gcd (hk' ▸ k0)
  obtain ⟨S, hS⟩ : ∃ S : Int, T.tdiv (k : Int) = S := ⟨_, rfl⟩
  have eS : S * k = T := by rw [← hS]; exact Int.tdiv_mul_cancel kT
  have nS : S.natAbs = T.natAbs / k := by rw [← hS, Int.natAbs_tdiv]; rfl
  have sS : decide (T < 0) = decide (S < 0) := by
    have : T < 0 ↔ S < 0 := by
      constructor
      · intro h
        rcases Int.lt_or_le S 0 with h' | h'
        · exact h'
        · have := Int.mul_nonneg h' (show (0 : Int) ≤ k by omega); omega
      · intro h
        have := Int.mul_neg_of_neg_of_pos h (show (0 : Int) < k by omega); omega
    simp [this]
  have fin := isRes_of (p := a * d + c * b) (q := b * d) (T := S) (U := l * e) (Int.mul_ne_zero (by omega) (by omega)) (Int.mul_pos lp ep) (by rw [nS, Int.natAbs_mul]; exact cop) (by
    have h5 : S * (b * d) * k = (a * d + c * b) * (l * e) * k := by
      have x1 : S * (b * d) * k = T * (b * d) := by rw [← eS]; ac_rfl
      have x2 : (a * d + c * b) * (l * e) * k = (a * d + c * b) * (l * d) := by rw [Int.mul_assoc (a * d + c * b), Int.mul_assoc l, eE]
      have x3 : a * d + c * b = T * g := by rw [← hT, ← eB, ← eD, Int.add_mul]; ac_rfl
      rw [x1, x2, x3, ← eB]
      ac_rfl
    exact Int.eq_of_mul_eq_mul_right (show (k : Int) ≠ 0 by omega) h5)
  have u1 : smN a b c d = selI (fitB S.natAbs && fitB (l * e).natAbs) (sgV S.natAbs (decide (S < 0))) := by unfold smN smF; rw [eT, eK, eU, nS, sS]
  have u2 : smD a b c d = selI (fitB S.natAbs && fitB (l * e).natAbs) (sgV (l * e).natAbs (decide (l * e < 0))) := by unfold smD smF; rw [eT, eK, eU, nS]
  have u3 : smF a b c d = (fitB S.natAbs && fitB (l * e).natAbs) := by unfold smF; rw [eT, eK, eU, nS]
  rw [u1, u2, u3]
  exact fin

theorem mk_res {a b : Int} (hb : b ≠ 0) : IsRes a b (mkN a b) (mkD a b) (mkE a b) := by
  obtain ⟨g, hg⟩ : ∃ g : Nat, g = Nat.gcd a.natAbs b.natAbs := ⟨_, rfl⟩
  have g0 : 0 < g := hg ▸ Nat.gcd_pos_of_pos_right _ (by omega)
  have eA : mkQ a b * g = a.natAbs := by unfold mkQ; rw [hg]; exact Nat.div_mul_cancel (Nat.gcd_dvd_left _ _)
  have eB : mkP a b * g = b.natAbs := by unfold mkP; rw [hg]; exact Nat.div_mul_cancel (Nat.gcd_dvd_right _ _)
  have cop : Nat.gcd (mkQ a b) (mkP a b) = 1 := by unfold mkQ mkP; exact Nat.coprime_div_gcd_div_gcd (hg ▸ g0)
  have hp0 : 0 < mkP a b := by
    rcases Nat.eq_zero_or_pos (mkP a b) with h | h
    · rw [h] at eB; omega
    · exact h
  obtain ⟨Q, hQ⟩ : ∃ Q : Int, Q = if mkS a b then -(mkQ a b : Int) else mkQ a b := ⟨_, rfl⟩
  have nQ : Q.natAbs = mkQ a b := by rw [hQ]; split <;> omega
  have heq : Q * b = a * (mkP a b : Nat) := by
    have eA' : ((mkQ a b : Nat) : Int) * (g : Int) = (a.natAbs : Int) := by rw [← Int.natCast_mul, eA]
    have eB' : ((mkP a b : Nat) : Int) * (g : Int) = (b.natAbs : Int) := by rw [← Int.natCast_mul, eB]
    refine Int.eq_of_mul_eq_mul_right (show (g : Int) ≠ 0 by omega) ?_
    rw [Int.mul_right_comm, Int.mul_assoc a, eB', hQ]
    unfold mkS
    by_cases ha : a < 0 <;> by_cases hb' : b < 0 <;> simp [ha, hb', Int.neg_mul, eA']
    · rw [show (a.natAbs : Int) = -a by omega, show (b.natAbs : Int) = -b by omega, Int.neg_mul, Int.mul_neg]
    · rw [show (a.natAbs : Int) = -a by omega, show (b.natAbs : Int) = b by omega, Int.neg_mul, Int.neg_neg]
    · rw [show (a.natAbs : Int) = a by omega, show (b.natAbs : Int) = -b by omega, Int.mul_neg]
    · rw [show (a.natAbs : Int) = a by omega, show (b.natAbs : Int) = b by omega]
  have fin := isRes_of (p := a) (q := b) (T := Q) (U := (mkP a b : Nat)) hb (by omega) (by rw [nQ]; exact cop) heq
  have u1 : mkN a b = selI (fitB Q.natAbs && fitB ((mkP a b : Nat) : Int).natAbs) (sgV Q.natAbs (decide (Q < 0))) := by
    unfold mkN mkF
    rw [if_neg hb, nQ, show ((mkP a b : Nat) : Int).natAbs = mkP a b from rfl]
    have : sgV (mkQ a b) (mkS a b) = sgV (mkQ a b) (decide (Q < 0)) := by
      unfold sgV
      split
      · cases hs : mkS a b
        · rw [hs] at hQ
          have hQ' : Q = mkQ a b := by simpa using hQ
          have : decide (Q < 0) = false := by simp; omega
          rw [this]
        · rw [hs] at hQ
          have hQ' : Q = -(mkQ a b : Int) := by simpa using hQ
          by_cases h0 : mkQ a b = 0
          · rw [h0]; simp
          · have : decide (Q < 0) = true := by simp; omega
            rw [this]
      · rfl
    rw [this]
  have u2 : mkD a b = selI (fitB Q.natAbs && fitB ((mkP a b : Nat) : Int).natAbs) (sgV ((mkP a b : Nat) : Int).natAbs (decide (((mkP a b : Nat) : Int) < 0))) := by
    unfold mkD mkF
    rw [if_neg hb, nQ, show ((mkP a b : Nat) : Int).natAbs = mkP a b from rfl, show decide (((mkP a b : Nat) : Int) < 0) = false by simp]
  have u3 : mkE a b = selE (fitB Q.natAbs && fitB ((mkP a b : Nat) : Int).natAbs) := by
    unfold mkE mkF
    rw [if_neg hb, nQ, show ((mkP a b : Nat) : Int).natAbs = mkP a b from rfl]
  rw [u1, u2, u3]
  exact fin
end Go.Proofs.YtpngjeloiifgnaaGreat
