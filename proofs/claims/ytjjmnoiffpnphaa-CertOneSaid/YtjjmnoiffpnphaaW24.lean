/-
  Joined: P, Q, Rv, T, Num, Con, Sm. Conditions: none.
-/
import Derived.Test.YtjjmnoiffpnphaaC
import Derived.Test.YtjjmnoiffpnphaaW20
import Derived.Test.YtjjmnoiffpnphaaG
import Derived.Laws.BitsAllLaws
import Derived.Laws.MathBits
import Derived.Lib.BitFns
import Derived.Test.YtjjmnoiffpnphaaSxJ
import Derived.Laws.Bits64b
namespace Go.Proofs.Ytjjmnoiffpnphaa
open Go.RowKit
theorem okBoth_zero {a b c d : Int} (h1 : okB a b = true) (h2 : okB c d = true) : bothE a b c d = 0 := by simp [bothE, h1, ckE, h2]
theorem wrap_i64_in {n : Int} (h0 : -9223372036854775808 ≤ n) (h1 : n ≤ 9223372036854775807) : IntKind.i64.wrap n = n := by
  rw [IntKind.wrap_i64]; omega
end Go.Proofs.Ytjjmnoiffpnphaa

namespace Go.Proofs.Ytjjmnoiffpnphaa
open Go.RowKit
theorem pure_run {P : Program} (n : Nat) {f : FuncId} {args : List Value} (ch : List Ch) {v : Value} {T : Prop} (ht : v = v ∧ T) (e : Good v (runS P n f args ch) = (v = v ∧ T)) : Pure P f args.toArray v := pure_of n ch (e ▸ ht)
abbrev ratioV (n d : Int) : Value := .agg #[.int .i64 n, .int .i64 d]
abbrev wideV (x : Int) : Value := .agg #[.int .u64 (wHi x), .int .u64 (wLo x)]
theorem plus_fits {a b c d : Int} (h0 : -9223372036854775807 ≤ a) (h1 : a ≤ 9223372036854775807) (h2 : -9223372036854775807 ≤ b) (h3 : b ≤ 9223372036854775807)
    (h4 : -9223372036854775807 ≤ c) (h5 : c ≤ 9223372036854775807) (h6 : -9223372036854775807 ≤ d) (h7 : d ≤ 9223372036854775807) : fits128 (a * b + c * d) := by
  have h : (a * b).natAbs ≤ 9223372036854775807 * 9223372036854775807 := by rw [Int.natAbs_mul]; exact Nat.mul_le_mul (by omega) (by omega)
  have g : (c * d).natAbs ≤ 9223372036854775807 * 9223372036854775807 := by rw [Int.natAbs_mul]; exact Nat.mul_le_mul (by omega) (by omega)
  unfold fits128
  generalize a * b = p at *
  generalize c * d = q at *
  omega

end Go.Proofs.Ytjjmnoiffpnphaa

namespace Go.Proofs.Ytjjmnoiffpnphaa
open Go.RowKit
abbrev bigV (s : Bool) (hi lo : Int) : Value := .agg #[.bool s, .int .u64 hi, .int .u64 lo]
theorem wrapv {x y : Int} (h : x = y) (h0 : 0 ≤ y) (h1 : y < 18446744073709551616) : Value.int .u64 (IntKind.u64.wrap x) = .int .u64 y := by rw [h, wrap_in h0 h1]

/-- The whole number A, of either sign, in two parts. -/
abbrev bigN (s : Bool) (A : Nat) : Value := bigV s ((A / 18446744073709551616 : Nat) : Int) ((A % 18446744073709551616 : Nat) : Int)
end Go.Proofs.Ytjjmnoiffpnphaa

namespace Go.Proofs.Ytjjmnoiffpnphaa
open Go.RowKit
theorem Both_ok {a b c d : Int} (ha : I64 a) (hb : I64 b) (hc : I64 c) (hd : I64 d) (h1 : okB a b = true) (h2 : okB c d = true) : Pure Try.prog 89 #[ratioV a b, ratioV c d] (.int .i64 0) :=
  fun w => okBoth_zero h1 h2 ▸ checkBoth_any a b c d w ha hb hc hd
set_option maxRecDepth 100000
theorem cmp_any {a b c d : Int} (ha : I64 a) (hb : I64 b) (hc : I64 c) (hd : I64 d) (h1 : okB a b = true) (h2 : okB c d = true) :
    Pure Try.prog 83 #[ratioV a b, ratioV c d] (.tuple #[.int .i64 (a * d - c * b).sign, .int .i64 0]) := by
  have b1 := okB_den h1
  have d1 := okB_den h2
  have a1 := okB_num h1
  have c1 := okB_num h2
  have hB := Both_ok ha hb hc hd h1 h2
  unfold I64 at ha hb hc hd
  have e : a * d + -(c * b) = a * d - c * b := rfl
  have f : fits128 (a * d - c * b) := by
    have := plus_fits (a := a) (b := d) (c := -c) (d := b) (by omega) (by omega) (by omega) (by omega) (by omega) (by omega) (by omega) (by omega)
    rw [Int.neg_mul] at this
    exact this
  exact pure_run (args := [ratioV a b, ratioV c d]) 100 [.r (.int .i64 0), .k, .r (wideV (a * d)), .r (wideV (c * b)), .r (wideV (-(c * b))), .r (wideV (a * d - c * b)), .r (.int .i64 (a * d - c * b).sign)]
    (And.intro rfl (And.intro hB (And.intro ((fun w => product_any a d w (by omega) (by omega) (by omega) (by omega) : Pure _ _ _ _)) (And.intro ((fun w => product_any c b w (by omega) (by omega) (by omega) (by omega) : Pure _ _ _ _)) (And.intro ((fun w => negated_any (c * b) w : Pure _ _ _ _)) (And.intro ((fun w => e ▸ plus_any (a * d) (-(c * b)) w : Pure _ _ _ _)) (And.intro ((fun w => sign_any _ w f : Pure _ _ _ _)) True.intro))))))) (by kernel_rfl)
end Go.Proofs.Ytjjmnoiffpnphaa

namespace Go.Proofs.Ytjjmnoiffpnphaa
/-- What a result has to do with p / q: the fraction in lowest terms; or out of range, and no valid fraction is it. -/
def IsRes (p q N D E : Int) : Prop :=
  (E = 0 ∧ okB N D = true ∧ I64 N ∧ I64 D ∧ N * q = p * D) ∨ (E = 16 ∧ N = 0 ∧ D = 0 ∧ ∀ n d, okB n d = true → I64 n → I64 d → n * q ≠ p * d)

theorem natAbs_gcd_dvd {T U n d : Int} (hU : 0 < U) (hd : 0 < d) (h1 : Nat.gcd T.natAbs U.natAbs = 1) (h2 : Nat.gcd n.natAbs d.natAbs = 1) (h : T * d = n * U) : T = n ∧ U = d := by
  have e : T.natAbs * d.natAbs = n.natAbs * U.natAbs := by rw [← Int.natAbs_mul, ← Int.natAbs_mul, h]
  have a1 : U.natAbs ∣ d.natAbs := Nat.Coprime.dvd_of_dvd_mul_left (show Nat.Coprime U.natAbs T.natAbs by rw [Nat.coprime_comm]; exact h1) ⟨n.natAbs, by rw [e, Nat.mul_comm]⟩
  have a2 : d.natAbs ∣ U.natAbs := Nat.Coprime.dvd_of_dvd_mul_left (show Nat.Coprime d.natAbs n.natAbs by rw [Nat.coprime_comm]; exact h2) ⟨T.natAbs, by rw [← e, Nat.mul_comm]⟩
  have a3 := Nat.dvd_antisymm a1 a2
  have hUd : U = d := by omega
  subst hUd
  exact ⟨Int.eq_of_mul_eq_mul_right (by omega) h, rfl⟩
theorem okB_iff {n d : Int} : okB n d = true ↔ 1 ≤ d ∧ n ≠ -9223372036854775808 ∧ Nat.gcd n.natAbs d.natAbs = 1 := by simp [okB]
theorem okB_one {n d n' d' : Int} (h1 : okB n d = true) (h2 : okB n' d' = true) (h : n * d' = n' * d) : n = n' ∧ d = d' := by
  obtain ⟨a1, _, a2⟩ := okB_iff.1 h1
  obtain ⟨b1, _, b2⟩ := okB_iff.1 h2
  exact natAbs_gcd_dvd (by omega) (by omega) a2 b2 h
theorem sgV_int (T : Int) (h : fitB T.natAbs = true) : sgV T.natAbs (decide (T < 0)) = T := by
  have h' : T.natAbs < 9223372036854775808 := by simpa [fitB] using h
  unfold sgV
  rw [if_pos h']
  by_cases ht : T < 0
  · simp [ht]; omega
  · simp [ht]; omega
theorem isRes_of {p q T U : Int} (hq : q ≠ 0) (hU : 0 < U) (hg : Nat.gcd T.natAbs U.natAbs = 1) (h : T * q = p * U) :
    IsRes p q (selI (fitB T.natAbs && fitB U.natAbs) (sgV T.natAbs (decide (T < 0)))) (selI (fitB T.natAbs && fitB U.natAbs) (sgV U.natAbs (decide (U < 0)))) (selE (fitB T.natAbs && fitB U.natAbs)) := by
  cases hf : (fitB T.natAbs && fitB U.natAbs)
  · refine Or.inr ⟨rfl, rfl, rfl, fun n d hk hn hd he => ?_⟩
    obtain ⟨a1, a2, a3⟩ := okB_iff.1 hk
    have e : T * d = n * U := by
      refine Int.eq_of_mul_eq_mul_right hq ?_
      rw [Int.mul_right_comm, h, Int.mul_right_comm n U q, he, Int.mul_right_comm]
    obtain ⟨rfl, rfl⟩ := natAbs_gcd_dvd hU (by omega) hg a3 e
    unfold I64 at hn hd
    have : (fitB T.natAbs && fitB U.natAbs) = true := by simp [fitB]; omega
    rw [hf] at this
    cases this
  · simp only [Bool.and_eq_true] at hf
    have h1 : T.natAbs < 9223372036854775808 := by simpa [fitB] using hf.1
    have h2 : U.natAbs < 9223372036854775808 := by simpa [fitB] using hf.2
    refine Or.inl ⟨rfl, ?_, ?_, ?_, ?_⟩
    · simp only [selI, if_true, sgV_int T hf.1, sgV_int U hf.2]
      exact okB_iff.2 ⟨by omega, by omega, hg⟩
    · simp only [selI, if_true, sgV_int T hf.1]; unfold I64; omega
    · simp only [selI, if_true, sgV_int U hf.2]; unfold I64; omega
    · simp only [selI, if_true, sgV_int T hf.1, sgV_int U hf.2]; exact h

theorem mk_res {a b : Int} (hb : b ≠ 0) : IsRes a b (mkN a b) (mkD a b) (mkE a b) := by
  obtain ⟨g, hg⟩ : ∃ g : Nat, g = Nat.gcd a.natAbs b.natAbs := ⟨_, rfl⟩
  have g0 : 0 < g := hg ▸ Nat.gcd_pos_of_pos_right _ (by omega)
  have eA : mkQ a b * g = a.natAbs := by unfold mkQ; rw [hg]; exact Nat.div_mul_cancel (Nat.gcd_dvd_left _ _)
  have eB : mkP a b * g = b.natAbs := by unfold mkP; rw [hg]; exact Nat.div_mul_cancel (Nat.gcd_dvd_right _ _)
  have cop : Nat.gcd (mkQ a b) (mkP a b) = 1 := by unfold mkQ mkP; exact Nat.coprime_div_gcd_div_gcd (hg ▸ g0)
  have hp0 : 0 < mkP a b := by
    rcases Nat.eq_zero_or_pos (mkP a b) with h | h
    · rw [h] at eB; omega
    · exact h
  obtain ⟨Q, hQ⟩ : ∃ Q : Int, Q = if mkS a b then -(mkQ a b : Int) else mkQ a b := ⟨_, rfl⟩
  have nQ : Q.natAbs = mkQ a b := by rw [hQ]; split <;> omega
  have heq : Q * b = a * (mkP a b : Nat) := by
    have eA' : ((mkQ a b : Nat) : Int) * (g : Int) = (a.natAbs : Int) := by rw [← Int.natCast_mul, eA]
    have eB' : ((mkP a b : Nat) : Int) * (g : Int) = (b.natAbs : Int) := by rw [← Int.natCast_mul, eB]
    refine Int.eq_of_mul_eq_mul_right (show (g : Int) ≠ 0 by omega) ?_
    rw [Int.mul_right_comm, Int.mul_assoc a, eB', hQ]
    unfold mkS
    by_cases ha : a < 0 <;> by_cases hb' : b < 0 <;> simp [ha, hb', Int.neg_mul, eA']
    · rw [show (a.natAbs : Int) = -a by omega, show (b.natAbs : Int) = -b by omega, Int.neg_mul, Int.mul_neg]
    · rw [show (a.natAbs : Int) = -a by omega, show (b.natAbs : Int) = b by omega, Int.neg_mul, Int.neg_neg]
    · rw [show (a.natAbs : Int) = a by omega, show (b.natAbs : Int) = -b by omega, Int.mul_neg]
    · rw [show (a.natAbs : Int) = a by omega, show (b.natAbs : Int) = b by omega]
  have fin := isRes_of (p := a) (q := b) (T := Q) (U := (mkP a b : Nat)) hb (by omega) (by rw [nQ]; exact cop) heq
  have u1 : mkN a b = selI (fitB Q.natAbs && fitB ((mkP a b : Nat) : Int).natAbs) (sgV Q.natAbs (decide (Q < 0))) := by
    unfold mkN mkF
    rw [if_neg hb, nQ, show ((mkP a b : Nat) : Int).natAbs = mkP a b from rfl]
    have : sgV (mkQ a b) (mkS a b) = sgV (mkQ a b) (decide (Q < 0)) := by
      unfold sgV
      split
      · cases hs : mkS a b
        · rw [hs] at hQ
          have hQ' : Q = mkQ a b := by simpa using hQ
          have : decide (Q < 0) = false := by simp; omega
          rw [this]
        · rw [hs] at hQ
          have hQ' : Q = -(mkQ a b : Int) := by simpa using hQ
          by_cases h0 : mkQ a b = 0
          · rw [h0]; simp
          · have : decide (Q < 0) = true := by simp; omega
            rw [this]
      · rfl
    rw [this]
  have u2 : mkD a b = selI (fitB Q.natAbs && fitB ((mkP a b : Nat) : Int).natAbs) (sgV ((mkP a b : Nat) : Int).natAbs (decide (((mkP a b : Nat) : Int) < 0))) := by
    unfold mkD mkF
    rw [if_neg hb, nQ, show ((mkP a b : Nat) : Int).natAbs = mkP a b from rfl, show decide (((mkP a b : Nat) : Int) < 0) = false by simp]
  have u3 : mkE a b = selE (fitB Q.natAbs && fitB ((mkP a b : Nat) : Int).natAbs) := by
    unfold mkE mkF
    rw [if_neg hb, nQ, show ((mkP a b : Nat) : Int).natAbs = mkP a b from rfl]
  rw [u1, u2, u3]
  exact fin
end Go.Proofs.Ytjjmnoiffpnphaa

namespace Go.Proofs.Ytjjmnoiffpnphaa
open Go.RowKit
theorem IsRes.one {p q N D E n d : Int} (h : IsRes p q N D E) (hq : q ≠ 0) (hk : okB n d = true) (hn : I64 n) (hd : I64 d) (he : n * q = p * d) : N = n ∧ D = d ∧ E = 0 := by
  rcases h with ⟨h1, h2, _, _, h5⟩ | ⟨_, _, _, h4⟩
  · have : N * d = n * D := by
      refine Int.eq_of_mul_eq_mul_right hq ?_
      rw [Int.mul_right_comm, h5, Int.mul_right_comm n D q, he, Int.mul_right_comm]
    obtain ⟨a1, a2⟩ := okB_one h2 hk this
    exact ⟨a1, a2, h1⟩
  · exact absurd he (h4 n d hk hn hd)
theorem Check_ok {n d : Int} (hn : I64 n) (hd : I64 d) (h : okB n d = true) : Pure Try.prog 47 #[ratioV n d] (.int .i64 0) := fun w => ckE_ok h ▸ check_any n d w hn.1 hn.2 hd.1 hd.2
theorem Check_bad {n d : Int} (hn : I64 n) (hd : I64 d) (h : ¬ okB n d = true) : Pure Try.prog 47 #[ratioV n d] (.int .i64 8) := fun w => ckE_bad h ▸ check_any n d w hn.1 hn.2 hd.1 hd.2
theorem RCheck_ok {n d : Int} (hn : I64 n) (hd : I64 d) (h : okB n d = true) : Pure Try.prog 58 #[ratioV n d] (.int .i64 0) := fun w => ckE_ok h ▸ check24_any n d w hn.1 hn.2 hd.1 hd.2
theorem RCheck_bad {n d : Int} (hn : I64 n) (hd : I64 d) (h : ¬ okB n d = true) : Pure Try.prog 58 #[ratioV n d] (.int .i64 8) := fun w => ckE_bad h ▸ check24_any n d w hn.1 hn.2 hd.1 hd.2
theorem Make_res {a b : Int} (ha : I64 a) (hb : I64 b) (h0 : b ≠ 0) : ∃ N D E, IsRes a b N D E ∧ Pure Try.prog 88 #[.int .i64 a, .int .i64 b] (.tuple #[ratioV N D, .int .i64 E]) :=
  ⟨_, _, _, mk_res h0, fun w => make17_any a b w ha hb⟩
theorem Cmp_ok {a b c d : Int} (ha : I64 a) (hb : I64 b) (hc : I64 c) (hd : I64 d) (h1 : okB a b = true) (h2 : okB c d = true) :
    Pure Try.prog 83 #[ratioV a b, ratioV c d] (.tuple #[.int .i64 (a * d - c * b).sign, .int .i64 0]) := cmp_any ha hb hc hd h1 h2
end Go.Proofs.Ytjjmnoiffpnphaa

namespace Go.Proofs.Ytjjmnoiffpnphaa
open Go.RowKit
set_option maxRecDepth 100000
theorem IsRes.fits {p q N D E : Int} (h : IsRes p q N D E) (hq : 0 < q) (q1 : q ≤ 9223372036854775807) (p0 : -9223372036854775807 ≤ p) (p1 : p ≤ 9223372036854775807) :
    E = 0 ∧ okB N D = true ∧ I64 N ∧ I64 D ∧ N * q = p * D := by
  rcases h with h | ⟨_, _, _, h4⟩
  · exact h
  · exfalso
    obtain ⟨g, hg⟩ : ∃ g : Nat, g = Nat.gcd p.natAbs q.natAbs := ⟨_, rfl⟩
    have g0 : 0 < g := hg ▸ Nat.gcd_pos_of_pos_right _ (by omega)
    have e1 : p.tdiv g * g = p := Int.tdiv_mul_cancel (Int.ofNat_dvd_left.2 (hg ▸ Nat.gcd_dvd_left _ _))
    have e2 : q.tdiv g * g = q := Int.tdiv_mul_cancel (Int.ofNat_dvd_left.2 (hg ▸ Nat.gcd_dvd_right _ _))
    have n1 : (p.tdiv g).natAbs = p.natAbs / g := by rw [Int.natAbs_tdiv]; rfl
    have n2 : (q.tdiv g).natAbs = q.natAbs / g := by rw [Int.natAbs_tdiv]; rfl
    have b1 : p.natAbs / g ≤ p.natAbs := Nat.div_le_self _ _
    have b2 : q.natAbs / g ≤ q.natAbs := Nat.div_le_self _ _
    have cop : Nat.gcd (p.tdiv g).natAbs (q.tdiv g).natAbs = 1 := by
      have g0' := g0
      rw [hg] at g0'
      rw [n1, n2, hg]
      exact Nat.coprime_div_gcd_div_gcd g0'
    generalize p.tdiv (g : Int) = P at *
    generalize q.tdiv (g : Int) = Q at *
    have hQ : 0 < Q := by
      rcases Int.lt_trichotomy Q 0 with h' | h' | h'
      · have := Int.mul_neg_of_neg_of_pos h' (show (0 : Int) < g by omega); omega
      · subst h'; omega
      · exact h'
    refine h4 P Q (okB_iff.2 ⟨by omega, by omega, cop⟩) (by unfold I64; omega) (by unfold I64; omega) ?_
    rw [← e1, ← e2]
    ac_rfl
theorem IsRes.congr {p q p' q' N D E : Int} (h : IsRes p q N D E) (hq : q ≠ 0) (hq' : q' ≠ 0) (e : p * q' = p' * q) : IsRes p' q' N D E := by
  have key : ∀ n d : Int, n * q = p * d ↔ n * q' = p' * d := by
    intro n d
    constructor
    · intro h
      refine Int.eq_of_mul_eq_mul_right hq ?_
      grind
    · intro h
      refine Int.eq_of_mul_eq_mul_right hq' ?_
      grind
  rcases h with ⟨h1, h2, h3, h4, h5⟩ | ⟨h1, h2, h3, h4⟩
  · exact Or.inl ⟨h1, h2, h3, h4, (key _ _).1 h5⟩
  · exact Or.inr ⟨h1, h2, h3, fun n d a1 a2 a3 a4 => h4 n d a1 a2 a3 ((key _ _).2 a4)⟩
end Go.Proofs.Ytjjmnoiffpnphaa
