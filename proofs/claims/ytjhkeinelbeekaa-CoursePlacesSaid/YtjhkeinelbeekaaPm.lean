/-
  The place of a point, as a fraction in lowest terms. Conditions: none.
-/
import Derived.Test.YtjhkeinelbeekaaPl
import Derived.Test.YtjhkeinelbeekaaCr
namespace Go.Proofs.Ytjhkeinelbeekaa
open Go.RowKit

theorem IsRes.uniq {p q N D E N' D' E' : Int} (h : IsRes p q N D E) (h' : IsRes p q N' D' E') (hq : q ≠ 0) : N = N' ∧ D = D' ∧ E = E' := by
  rcases h with ⟨e1, k1, i1, j1, f1⟩ | ⟨e1, n1, d1, g1⟩ <;> rcases h' with ⟨e2, k2, i2, j2, f2⟩ | ⟨e2, n2, d2, g2⟩
  · have e : N * D' = N' * D := by
      refine Int.eq_of_mul_eq_mul_right hq ?_
      rw [Int.mul_right_comm, f1, Int.mul_right_comm N' D q, f2, Int.mul_right_comm]
    obtain ⟨a, b⟩ := okB_one k1 k2 e
    exact ⟨a, b, e1.trans e2.symm⟩
  · exact absurd f1 (g2 N D k1 i1 j1)
  · exact absurd f2 (g1 N' D' k2 i2 j2)
  · exact ⟨n1.trans n2.symm, d1.trans d2.symm, e1.trans e2.symm⟩

theorem and_low {n : Int} (h : I64 n) : Value.int .i64 (bits .and .i64 n 4294967295) = .int .i64 (n % 4294967296) := by
  unfold I64 at h
  have h1 : (BitVec.ofInt 64 n).toNat = (n % 18446744073709551616).toNat := by rw [BitVec.toNat_ofInt]; rfl
  have h2 : (BitVec.ofInt 64 4294967295).toNat = 2 ^ 32 - 1 := by decide
  have e : bits .and .i64 n 4294967295 = IntKind.i64.wrap ((BitVec.ofInt 64 n &&& BitVec.ofInt 64 4294967295).toNat : Int) := rfl
  rw [e, BitVec.toNat_and, h1, h2, Nat.and_two_pow_sub_one_eq_mod, wrap_i64_in (by omega) (by omega)]
  congr 1
  omega
theorem fdiv32 (n : Int) : n.fdiv (2 ^ (min (32 : Int).toNat IntKind.i64.bits)) = n / 4294967296 := by
  rw [show ((2 : Int) ^ (min (32 : Int).toNat IntKind.i64.bits)) = 4294967296 by decide]
  exact Int.fdiv_eq_ediv_of_nonneg _ (by decide)
theorem split_ok {n : Int} (h : I64 n) : Pure Try.prog 93 #[.int .i64 n] (.agg #[.int .i64 (n / 4294967296), .int .i64 (n % 4294967296)]) :=
  split_path (by decide) (by rw [fdiv32]) (and_low h)
theorem wrapI {x : Int} (h0 : -9223372036854775808 ≤ x) (h1 : x ≤ 9223372036854775807) : Value.int .i64 (IntKind.i64.wrap x) = .int .i64 x := by rw [wrap_i64_in h0 h1]
theorem mulB {a x A X : Int} (h1 : -A ≤ a) (h2 : a ≤ A) (h3 : -X ≤ x) (h4 : x ≤ X) (hA : 0 ≤ A) (hX : 0 ≤ X) : -(A * X) ≤ a * x ∧ a * x ≤ A * X := mul_bd h2 h1 h4 h3 hA hX
/-- The number of which h has the parts. -/
theorem joined_any {s0 s1 S : Int} (h0 : -9223372036854775 ≤ s0) (h1 : s0 ≤ 9223372036854775) (h2 : -9223372036854775 ≤ s1) (h3 : s1 ≤ 9223372036854775) (hS : S = s0 * 4294967296 + s1) :
    (I64 S ∧ Pure Try.prog 94 #[.agg #[.int .i64 s0, .int .i64 s1]] (.tuple #[.int .i64 S, .bool true])) ∨ (¬ I64 S ∧ Pure Try.prog 94 #[.agg #[.int .i64 s0, .int .i64 s1]] (.tuple #[.int .i64 0, .bool false])) := by
  have v1 : Value.int .i64 (s1.fdiv (2 ^ (min (32 : Int).toNat IntKind.i64.bits))) = .int .i64 (s1 / 4294967296) := by rw [fdiv32]
  have v2 := wrapI (x := s0 + s1 / 4294967296) (by omega) (by omega)
  by_cases a : s0 + s1 / 4294967296 < -2147483648
  · exact Or.inr ⟨by unfold I64; omega, joined_lo (by decide) v1 v2 (dt a)⟩
  · by_cases b : s0 + s1 / 4294967296 > 2147483647
    · exact Or.inr ⟨by unfold I64; omega, joined_hi (by decide) v1 v2 (df a) (dt b)⟩
    · refine Or.inl ⟨by unfold I64; omega, joined_ok (by decide) v1 v2 (df a) (df b) (hh := (s0 + s1 / 4294967296) * 4294967296) ?_ (and_low (by unfold I64; omega)) ?_⟩
      · rw [show ((2 : Int) ^ (min (32 : Int).toNat IntKind.i64.bits)) = 4294967296 by decide]
        exact wrapI (by omega) (by omega)
      · rw [show (s0 + s1 / 4294967296) * 4294967296 + s1 % 4294967296 = S by omega]
        exact wrapI (by omega) (by omega)

theorem At_res {pi pa pb n d : Int} (hn : I64 n) (hd : I64 d) (hp : okP pi pa pb = true) (ht : okB n d = true) :
    ∃ N D E, IsRes (pa * d + pb * n) d N D E ∧ Pure Try.prog 39 #[pointV pi pa pb, ratioV n d] (.tuple #[ratioV N D, .int .i64 E]) := by
  have hp' := okP_iff.1 hp
  have d1 := okB_den ht
  have hd' := hd
  have hn' := hn
  unfold I64 at hd' hn'
  -- the rate
  obtain ⟨rn, rd, E, hr, hm⟩ := Make_res (a := pb) (b := d) (by unfold I64; omega) hd (by omega)
  obtain ⟨rfl, k1, i1, i2, e1⟩ := hr.fits (by omega) (by omega) (by omega) (by omega)
  have rd1 := okB_den k1
  have i2' := i2
  have i1' := i1
  unfold I64 at i1' i2'
  -- the rate's numerator is no greater than B
  have hdvd : rd.natAbs ∣ d.natAbs := by
    obtain ⟨_, _, g⟩ := okB_iff.1 k1
    refine Nat.Coprime.dvd_of_dvd_mul_left (show Nat.Coprime rd.natAbs rn.natAbs by rw [Nat.coprime_comm]; exact g) ⟨pb.natAbs, ?_⟩
    rw [← Int.natAbs_mul, e1, Int.natAbs_mul, Nat.mul_comm]
  obtain ⟨c, hc⟩ := hdvd
  have c0 : 0 < c := by
    rcases Nat.eq_zero_or_pos c with e | e
    · rw [e, Nat.mul_zero] at hc; omega
    · exact e
  have hdc : d = rd * (c : Int) := by
    have : d = ((rd.natAbs * c : Nat) : Int) := by omega
    rw [this, Int.natCast_mul]; congr 1; omega
  have hbc : pb = rn * (c : Int) := by
    refine Int.eq_of_mul_eq_mul_right (show rd ≠ 0 by omega) ?_
    rw [← e1, hdc, Int.mul_right_comm, Int.mul_assoc]
  have hrn : -1048576 ≤ rn ∧ rn ≤ 1048576 := by
    have : rn.natAbs * c = pb.natAbs := by rw [hbc, Int.natAbs_mul, Int.natAbs_natCast]
    have := Nat.le_mul_of_pos_right rn.natAbs c0
    omega
  -- the sum in two parts
  have a0 := mulB (a := pa) (x := rd / 4294967296) (A := 1048576) (X := 2147483648) (by omega) (by omega) (by omega) (by omega) (by decide) (by decide)
  have b0 := mulB (a := rn) (x := n / 4294967296) (A := 1048576) (X := 2147483648) (by omega) (by omega) (by omega) (by omega) (by decide) (by decide)
  have a1 := mulB (a := pa) (x := rd % 4294967296) (A := 1048576) (X := 4294967296) (by omega) (by omega) (by omega) (by omega) (by decide) (by decide)
  have b1 := mulB (a := rn) (x := n % 4294967296) (A := 1048576) (X := 4294967296) (by omega) (by omega) (by omega) (by omega) (by decide) (by decide)
  have hsum := sum2_path (a := pa) (b := rn) (x0 := rd / 4294967296) (x1 := rd % 4294967296) (y0 := n / 4294967296) (y1 := n % 4294967296) (wrapI (by omega) (by omega)) (wrapI (by omega) (by omega)) (wrapI (by omega) (by omega)) (wrapI (by omega) (by omega)) (wrapI (by omega) (by omega)) (wrapI (by omega) (by omega))
  obtain ⟨S, hS⟩ : ∃ S, S = pa * rd + rn * n := ⟨_, rfl⟩
  have hS2 : S = (pa * (rd / 4294967296) + rn * (n / 4294967296)) * 4294967296 + (pa * (rd % 4294967296) + rn * (n % 4294967296)) := by
    have e2 : rd = rd / 4294967296 * 4294967296 + rd % 4294967296 := by omega
    have e3 : n = n / 4294967296 * 4294967296 + n % 4294967296 := by omega
    rw [hS]
    conv => lhs; rw [e2, e3]
    rw [Int.mul_add, Int.mul_add, Int.add_mul, ← Int.mul_assoc, ← Int.mul_assoc]
    omega
  have heq : S * d = (pa * d + pb * n) * rd := by
    rw [hS, Int.add_mul, Int.add_mul, Int.mul_right_comm pa rd d, Int.mul_right_comm rn n d, e1, Int.mul_right_comm pb rd n]
  have hcd : Nat.gcd S.natAbs rd.natAbs = 1 := by
    obtain ⟨_, _, g1⟩ := okB_iff.1 k1
    obtain ⟨_, _, g2⟩ := okB_iff.1 ht
    have g3 : Nat.Coprime n.natAbs rd.natAbs := Nat.Coprime.coprime_dvd_right ⟨c, hc⟩ g2
    have g4 : Nat.Coprime (rn * n).natAbs rd.natAbs := by rw [Int.natAbs_mul]; exact Nat.Coprime.mul_left g1 g3
    have g5 : Int.gcd S rd = 1 := by
      rw [hS, Int.add_comm, Int.gcd_comm, Int.gcd_add_mul_right_right, Int.gcd_comm]
      exact g4
    exact g5
  have hat := fun {N D E : Int} (h : Pure Try.prog 73 #[pointV pi pa pb, ratioV n d] (.tuple #[ratioV N D, .int .i64 E])) => at_ok (Check02_ok hp) (Check_ok hn hd ht) h
  rcases joined_any (s0 := pa * (rd / 4294967296) + rn * (n / 4294967296)) (s1 := pa * (rd % 4294967296) + rn * (n % 4294967296)) (S := S) (by omega) (by omega) (by omega) (by omega) hS2 with ⟨j1, j2⟩ | ⟨j1, j2⟩
  · obtain ⟨N, D, E, h1, h2⟩ := Make_res (a := S) (b := rd) j1 i2 (by omega)
    exact ⟨N, D, E, h1.congr (by omega) (by omega) heq, hat (place_t hm (split_ok i2) (split_ok hn) hsum j2 h2)⟩
  · have hres := isRes_of (p := pa * d + pb * n) (q := d) (T := S) (U := rd) (by omega) (by omega) hcd heq
    have hf : (fitB S.natAbs && fitB rd.natAbs) = false := by
      unfold I64 at j1
      simp [fitB]; omega
    rw [hf] at hres
    exact ⟨_, _, _, hres, hat (place_f hm (split_ok i2) (split_ok hn) hsum j2)⟩
end Go.Proofs.Ytjhkeinelbeekaa
