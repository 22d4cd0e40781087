/-
  RatioSmall returns true for all fractions and numbers. Conditions: none.
-/
import Derived.Test.YtjhkeinelbeekaaCon
namespace Go.Proofs.Ytjhkeinelbeekaa
open Go.RowKit
set_option maxRecDepth 100000

theorem sm_s {sn sd tn td a b : Int} {e : Int} (h1 : Pure Try.prog 31 #[ratioV sn sd] (.int .i64 e)) (he : (e != 0) = true) : Pure Try.prog 9 #[ratioV sn sd, ratioV tn td, .int .i64 a, .int .i64 b] (.bool true) :=
  pure_run (args := [ratioV sn sd, ratioV tn td, .int .i64 a, .int .i64 b]) 400 [.r (.int .i64 e), .t true, .r (.bool true)]
    (And.intro rfl (And.intro h1 (And.intro he (And.intro alive01 True.intro)))) (by kernel_rfl)

theorem sm_t {sn sd tn td a b : Int} {e : Int} (h1 : Pure Try.prog 31 #[ratioV sn sd] (.int .i64 0)) (h2 : Pure Try.prog 31 #[ratioV tn td] (.int .i64 e)) (he : (e != 0) = true) : Pure Try.prog 9 #[ratioV sn sd, ratioV tn td, .int .i64 a, .int .i64 b] (.bool true) :=
  pure_run (args := [ratioV sn sd, ratioV tn td, .int .i64 a, .int .i64 b]) 400 [.r (.int .i64 0), .k, .r (.int .i64 e), .t true, .r (.bool true)]
    (And.intro rfl (And.intro h1 (And.intro h2 (And.intro he (And.intro alive01 True.intro))))) (by kernel_rfl)

theorem sm_0 {sn sd tn td a b : Int} (h1 : Pure Try.prog 31 #[ratioV sn sd] (.int .i64 0)) (h2 : Pure Try.prog 31 #[ratioV tn td] (.int .i64 0)) (t0 : decide (a > 4194304) = true) : Pure Try.prog 9 #[ratioV sn sd, ratioV tn td, .int .i64 a, .int .i64 b] (.bool true) :=
  pure_run (args := [ratioV sn sd, ratioV tn td, .int .i64 a, .int .i64 b]) 400 [.r (.int .i64 0), .k, .r (.int .i64 0), .k, .t true, .r (.bool true)]
    (And.intro rfl (And.intro h1 (And.intro h2 (And.intro t0 (And.intro alive01 True.intro))))) (by kernel_rfl)

theorem sm_1 {sn sd tn td a b : Int} (h1 : Pure Try.prog 31 #[ratioV sn sd] (.int .i64 0)) (h2 : Pure Try.prog 31 #[ratioV tn td] (.int .i64 0)) (t0 : decide (a > 4194304) = false) (t1 : decide (a < -4194304) = true) : Pure Try.prog 9 #[ratioV sn sd, ratioV tn td, .int .i64 a, .int .i64 b] (.bool true) :=
  pure_run (args := [ratioV sn sd, ratioV tn td, .int .i64 a, .int .i64 b]) 400 [.r (.int .i64 0), .k, .r (.int .i64 0), .k, .t false, .t true, .r (.bool true)]
    (And.intro rfl (And.intro h1 (And.intro h2 (And.intro t0 (And.intro t1 (And.intro alive01 True.intro)))))) (by kernel_rfl)

theorem sm_2 {sn sd tn td a b : Int} (h1 : Pure Try.prog 31 #[ratioV sn sd] (.int .i64 0)) (h2 : Pure Try.prog 31 #[ratioV tn td] (.int .i64 0)) (t0 : decide (a > 4194304) = false) (t1 : decide (a < -4194304) = false) (t2 : decide (b > 4194304) = true) : Pure Try.prog 9 #[ratioV sn sd, ratioV tn td, .int .i64 a, .int .i64 b] (.bool true) :=
  pure_run (args := [ratioV sn sd, ratioV tn td, .int .i64 a, .int .i64 b]) 400 [.r (.int .i64 0), .k, .r (.int .i64 0), .k, .t false, .t false, .t true, .r (.bool true)]
    (And.intro rfl (And.intro h1 (And.intro h2 (And.intro t0 (And.intro t1 (And.intro t2 (And.intro alive01 True.intro))))))) (by kernel_rfl)

theorem sm_3 {sn sd tn td a b : Int} (h1 : Pure Try.prog 31 #[ratioV sn sd] (.int .i64 0)) (h2 : Pure Try.prog 31 #[ratioV tn td] (.int .i64 0)) (t0 : decide (a > 4194304) = false) (t1 : decide (a < -4194304) = false) (t2 : decide (b > 4194304) = false) (t3 : decide (b < -4194304) = true) : Pure Try.prog 9 #[ratioV sn sd, ratioV tn td, .int .i64 a, .int .i64 b] (.bool true) :=
  pure_run (args := [ratioV sn sd, ratioV tn td, .int .i64 a, .int .i64 b]) 400 [.r (.int .i64 0), .k, .r (.int .i64 0), .k, .t false, .t false, .t false, .t true, .r (.bool true)]
    (And.intro rfl (And.intro h1 (And.intro h2 (And.intro t0 (And.intro t1 (And.intro t2 (And.intro t3 (And.intro alive01 True.intro)))))))) (by kernel_rfl)

theorem sm_4 {sn sd tn td a b N1 D1 N2 D2 N3 D3 N4 D4 : Int} (h1 : Pure Try.prog 31 #[ratioV sn sd] (.int .i64 0)) (h2 : Pure Try.prog 31 #[ratioV tn td] (.int .i64 0)) (t0 : decide (a > 4194304) = false) (t1 : decide (a < -4194304) = false) (t2 : decide (b > 4194304) = false) (t3 : decide (b < -4194304) = false) (c1 : Pure Try.prog 24 #[(.int .i64 a)] (.tuple #[ratioV (a) (1), .int .i64 (0)])) (c2 : Pure Try.prog 24 #[(.int .i64 b)] (.tuple #[ratioV (b) (1), .int .i64 (0)])) (c3 : Pure Try.prog 19 #[ratioV b 1, ratioV tn td] (.tuple #[ratioV (N1) (D1), .int .i64 (0)])) (c4 : Pure Try.prog 17 #[ratioV a 1, ratioV N1 D1] (.tuple #[ratioV (N2) (D2), .int .i64 (0)])) (c5 : Pure Try.prog 18 #[ratioV sn sd, ratioV tn td] (.tuple #[ratioV (N3) (D3), .int .i64 (0)])) (c6 : Pure Try.prog 17 #[ratioV N2 D2, ratioV N3 D3] (.tuple #[ratioV (N4) (D4), .int .i64 (0)])) (c7 : Pure Try.prog 30 #[ratioV N4 D4] (.int .i64 (0))) (z0 : decide (D2 ≤ 1024) = true) (z1 : decide (N2 ≤ 4503603922337792) = true) (z2 : decide (N2 ≥ -4503603922337792) = true) : Pure Try.prog 9 #[ratioV sn sd, ratioV tn td, .int .i64 a, .int .i64 b] (.bool true) :=
  pure_run (args := [ratioV sn sd, ratioV tn td, .int .i64 a, .int .i64 b]) 400 [.r (.int .i64 0), .k, .r (.int .i64 0), .k, .t false, .t false, .t false, .t false, .r (.tuple #[ratioV (a) (1), .int .i64 (0)]), .r (.tuple #[ratioV (b) (1), .int .i64 (0)]), .r (.tuple #[ratioV (N1) (D1), .int .i64 (0)]), .r (.tuple #[ratioV (N2) (D2), .int .i64 (0)]), .r (.tuple #[ratioV (N3) (D3), .int .i64 (0)]), .r (.tuple #[ratioV (N4) (D4), .int .i64 (0)]), .k, .k, .k, .k, .k, .k, .r (.int .i64 (0)), .k, .t true, .t true, .t true, .r (.bool true)]
    (And.intro rfl (And.intro h1 (And.intro h2 (And.intro t0 (And.intro t1 (And.intro t2 (And.intro t3 (And.intro c1 (And.intro c2 (And.intro c3 (And.intro c4 (And.intro c5 (And.intro c6 (And.intro c7 (And.intro z0 (And.intro z1 (And.intro z2 (And.intro alive01 True.intro)))))))))))))))))) (by kernel_rfl)

theorem IsRes.dvd {p q N D : Int} (hk : okB N D = true) (hq : 0 < q) (h : N * q = p * D) : ∃ m, 0 < m ∧ q = D * m ∧ p = N * m := by
  obtain ⟨d1, _, g⟩ := okB_iff.1 hk
  have h1 : D.natAbs ∣ q.natAbs := by
    refine Nat.Coprime.dvd_of_dvd_mul_left (show Nat.Coprime D.natAbs N.natAbs by rw [Nat.coprime_comm]; exact g) ⟨p.natAbs, ?_⟩
    rw [← Int.natAbs_mul, h, Int.natAbs_mul, Nat.mul_comm]
  obtain ⟨m, rfl⟩ := Int.natAbs_dvd_natAbs.1 h1
  refine ⟨m, ?_, rfl, ?_⟩
  · rcases Int.lt_trichotomy m 0 with h' | h' | h'
    · have := Int.mul_neg_of_pos_of_neg (show 0 < D by omega) h'; omega
    · subst h'; simp at hq
    · exact h'
  · refine Int.eq_of_mul_eq_mul_right (show D ≠ 0 by omega) ?_
    rw [← h]; ac_rfl
theorem mul_ge {x m : Int} (hm : 0 < m) : (0 ≤ x → x ≤ x * m) ∧ (x ≤ 0 → x * m ≤ x) := by
  constructor
  · intro hx
    have := Int.mul_le_mul_of_nonneg_left (show (1 : Int) ≤ m by omega) hx
    omega
  · intro hx
    have := Int.mul_le_mul_of_nonpos_left hx (show (1 : Int) ≤ m by omega)
    omega
theorem IsRes.fits {p q N D E : Int} (h : IsRes p q N D E) (hq : 0 < q) (q1 : q ≤ 9223372036854775807) (p0 : -9223372036854775807 ≤ p) (p1 : p ≤ 9223372036854775807) :
    E = 0 ∧ okB N D = true ∧ I64 N ∧ I64 D ∧ N * q = p * D := by
  rcases h with h | ⟨_, _, _, h4⟩
  · exact h
  · exfalso
    obtain ⟨g, hg⟩ : ∃ g : Nat, g = Nat.gcd p.natAbs q.natAbs := ⟨_, rfl⟩
    have g0 : 0 < g := hg ▸ Nat.gcd_pos_of_pos_right _ (by omega)
    have e1 : p.tdiv g * g = p := Int.tdiv_mul_cancel (Int.ofNat_dvd_left.2 (hg ▸ Nat.gcd_dvd_left _ _))
    have e2 : q.tdiv g * g = q := Int.tdiv_mul_cancel (Int.ofNat_dvd_left.2 (hg ▸ Nat.gcd_dvd_right _ _))
    have n1 : (p.tdiv g).natAbs = p.natAbs / g := by rw [Int.natAbs_tdiv]; rfl
    have n2 : (q.tdiv g).natAbs = q.natAbs / g := by rw [Int.natAbs_tdiv]; rfl
    have b1 : p.natAbs / g ≤ p.natAbs := Nat.div_le_self _ _
    have b2 : q.natAbs / g ≤ q.natAbs := Nat.div_le_self _ _
    have cop : Nat.gcd (p.tdiv g).natAbs (q.tdiv g).natAbs = 1 := by
      have g0' := g0
      rw [hg] at g0'
      rw [n1, n2, hg]
      exact Nat.coprime_div_gcd_div_gcd g0'
    generalize p.tdiv (g : Int) = P at *
    generalize q.tdiv (g : Int) = Q at *
    have hQ : 0 < Q := by
      rcases Int.lt_trichotomy Q 0 with h' | h' | h'
      · have := Int.mul_neg_of_neg_of_pos h' (show (0 : Int) < g by omega); omega
      · subst h'; omega
      · exact h'
    refine h4 P Q (okB_iff.2 ⟨by omega, by omega, cop⟩) (by unfold I64; omega) (by unfold I64; omega) ?_
    rw [← e1, ← e2]
    ac_rfl
theorem small_eq (N1 N2 D1 D2 a b tn td : Int) (h1 : N2 * D1 = (a * D1 + N1) * D2) (h2 : N1 * td = b * tn * D1) (hD : D1 ≠ 0) : N2 * td = (a * td + b * tn) * D2 := by
  refine Int.eq_of_mul_eq_mul_right hD ?_
  grind
theorem small_eq2 (N2 N3 D2 D3 a b sn sd tn td : Int) (h1 : N2 * td = (a * td + b * tn) * D2) (h2 : N3 * (sd * td) = (sn * td - tn * sd) * D3) :
    (N2 * D3 + N3 * D2) * (sd * td) = ((a * td + b * tn - tn) * sd + sn * td) * (D2 * D3) := by grind
theorem IsRes.congr {p q p' q' N D E : Int} (h : IsRes p q N D E) (hq : q ≠ 0) (hq' : q' ≠ 0) (e : p * q' = p' * q) : IsRes p' q' N D E := by
  have key : ∀ n d : Int, n * q = p * d ↔ n * q' = p' * d := by
    intro n d
    constructor
    · intro h
      refine Int.eq_of_mul_eq_mul_right hq ?_
      grind
    · intro h
      refine Int.eq_of_mul_eq_mul_right hq' ?_
      grind
  rcases h with ⟨h1, h2, h3, h4, h5⟩ | ⟨h1, h2, h3, h4⟩
  · exact Or.inl ⟨h1, h2, h3, h4, (key _ _).1 h5⟩
  · exact Or.inr ⟨h1, h2, h3, fun n d a1 a2 a3 a4 => h4 n d a1 a2 a3 ((key _ _).2 a4)⟩
theorem mul_bd {n k A B : Int} (h1 : n ≤ A) (h2 : -A ≤ n) (h3 : k ≤ B) (h4 : -B ≤ k) (hA : 0 ≤ A) (hB : 0 ≤ B) : -(A * B) ≤ n * k ∧ n * k ≤ A * B := by
  have e : (n * k).natAbs ≤ A.natAbs * B.natAbs := by rw [Int.natAbs_mul]; exact Nat.mul_le_mul (by omega) (by omega)
  have e2 : ((A.natAbs * B.natAbs : Nat) : Int) = A * B := by rw [Int.natCast_mul]; congr 1 <;> omega
  omega
theorem small_law {sn sd tn td a b : Int} (hsn : I64 sn) (hsd : I64 sd) (htn : I64 tn) (htd : I64 td) (ha : I64 a) (hb : I64 b) :
    Pure Try.prog 9 #[ratioV sn sd, ratioV tn td, .int .i64 a, .int .i64 b] (.bool true) := by
  have c1 : Pure Try.prog 31 #[ratioV sn sd] (.int .i64 (askE sn sd)) := fun w => asked25_any sn sd w hsn hsd
  have c2 : Pure Try.prog 31 #[ratioV tn td] (.int .i64 (askE tn td)) := fun w => asked25_any tn td w htn htd
  by_cases e1 : askE sn sd = 0
  · rw [e1] at c1
    by_cases e2 : askE tn td = 0
    · rw [e2] at c2
      by_cases t0 : a > 4194304
      · exact sm_0 c1 c2 (by simpa using t0)
      by_cases t1 : a < -4194304
      · exact sm_1 c1 c2 (by simpa using t0) (by simpa using t1)
      by_cases t2 : b > 4194304
      · exact sm_2 c1 c2 (by simpa using t0) (by simpa using t1) (by simpa using t2)
      by_cases t3 : b < -4194304
      · exact sm_3 c1 c2 (by simpa using t0) (by simpa using t1) (by simpa using t2) (by simpa using t3)
      have inv : ∀ {n d : Int}, askE n d = 0 → okB n d = true ∧ n ≤ 1073741824 ∧ -1073741824 ≤ n ∧ d ≤ 1024 := by
        intro n d h
        by_cases h1 : okB n d = true
        · by_cases h2 : n ≤ 1073741824 ∧ -1073741824 ≤ n ∧ d ≤ 1024
          · exact ⟨h1, h2⟩
          · rw [askE_arg h1 h2] at h; omega
        · rw [askE_bad h1] at h; omega
      obtain ⟨ks, s1, s2, s3⟩ := inv e1
      obtain ⟨kt, u1, u2, u3⟩ := inv e2
      have ds := okB_den ks
      have dt := okB_den kt
      have I1 : I64 1 := by unfold I64; omega
      obtain ⟨N1, D1, E1, r1, p1⟩ := Mul_res (a := b) (b := 1) (c := tn) (d := td) hb I1 htn htd (okB_whole (by omega)) kt
      have m1 := mul_bd (n := b) (k := tn) (A := 4194304) (B := 1073741824) (by omega) (by omega) (by omega) (by omega) (by omega) (by omega)
      obtain ⟨rfl, k1, i1, j1, q1⟩ := r1.fits (by omega) (by omega) (by omega) (by omega)
      obtain ⟨x1, y1, z1, v1⟩ := IsRes.dvd k1 (by omega) q1
      have d1 := okB_den k1
      have g1 := mul_ge (x := D1) y1
      have g2 := mul_ge (x := N1) y1
      have m2 := mul_bd (n := a) (k := D1) (A := 4194304) (B := 1024) (by omega) (by omega) (by omega) (by omega) (by omega) (by omega)
      obtain ⟨N2, D2, E2, r2, p2⟩ := Add_res (a := a) (b := 1) (c := N1) (d := D1) ha I1 i1 j1 (okB_whole (by omega)) k1
      obtain ⟨rfl, k2, i2, j2, q2⟩ := r2.fits (by omega) (by omega) (by omega) (by omega)
      obtain ⟨x2, y2, z2, v2⟩ := IsRes.dvd k2 (by omega) q2
      have d2 := okB_den k2
      have g3 := mul_ge (x := D2) y2
      have g4 := mul_ge (x := N2) y2
      have m3 := mul_bd (n := sn) (k := td) (A := 1073741824) (B := 1024) (by omega) (by omega) (by omega) (by omega) (by omega) (by omega)
      have m4 := mul_bd (n := tn) (k := sd) (A := 1073741824) (B := 1024) (by omega) (by omega) (by omega) (by omega) (by omega) (by omega)
      have m5 := mul_bd (n := sd) (k := td) (A := 1024) (B := 1024) (by omega) (by omega) (by omega) (by omega) (by omega) (by omega)
      have pst : 0 < sd * td := Int.mul_pos (by omega) (by omega)
      obtain ⟨N3, D3, E3, r3, p3⟩ := Sub_res (a := sn) (b := sd) (c := tn) (d := td) hsn hsd htn htd ks kt
      obtain ⟨rfl, k3, i3, j3, q3⟩ := r3.fits pst (by omega) (by omega) (by omega)
      have d3 := okB_den k3
      obtain ⟨N4, D4, E4, r4, p4⟩ := Add_res (a := N2) (b := D2) (c := N3) (d := D3) i2 j2 i3 j3 k2 k3
      have w1 := small_eq N1 N2 D1 D2 a b tn td (by simpa using q2) (by simpa using q1) (by omega)
      have w2 := small_eq2 N2 N3 D2 D3 a b sn sd tn td w1 q3
      have r5 := r4.congr (p' := (a * td + b * tn - tn) * sd + sn * td) (q' := sd * td) (Int.mul_ne_zero (by omega) (by omega)) (by omega) w2
      have m6 := mul_bd (n := a) (k := td) (A := 4194304) (B := 1024) (by omega) (by omega) (by omega) (by omega) (by omega) (by omega)
      have m7 := mul_bd (n := a * td + b * tn - tn) (k := sd) (A := 4503604996079616) (B := 1024) (by omega) (by omega) (by omega) (by omega) (by omega) (by omega)
      obtain ⟨rfl, k4, i4, j4, q4⟩ := r5.fits pst (by omega) (by omega) (by omega)
      exact sm_4 c1 c2 (by simpa using t0) (by simpa using t1) (by simpa using t2) (by simpa using t3) (Of_ok ha (by omega)) (Of_ok hb (by omega)) p1 p2 p3 p4 (RCheck_ok i4 j4 k4)
        (by simp; omega) (by simp; omega) (by simp; omega)
    · exact sm_t c1 c2 (by simpa using e2)
  · exact sm_s c1 (by simpa using e1)
end Go.Proofs.Ytjhkeinelbeekaa
