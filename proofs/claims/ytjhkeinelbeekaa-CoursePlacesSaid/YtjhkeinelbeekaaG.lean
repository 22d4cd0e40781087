/-
  Floor, Make and Of of package ratio, and the reference's, return the same, in whatever world.
-/
import Derived.Test.YtjhkeinelbeekaaF
namespace Go.Proofs.Ytjhkeinelbeekaa
open Go.RowKit

theorem okB_den {n d : Int} (h : okB n d = true) : 1 ≤ d := by simp [okB] at h; exact h.1
theorem okB_num {n d : Int} (h : okB n d = true) : n ≠ -9223372036854775808 := by simp [okB] at h; exact h.2.1
theorem okB_gcd {n d : Int} (h : okB n d = true) : Nat.gcd n.natAbs d.natAbs = 1 := by simp [okB] at h; exact h.2.2
/-- The floor, or 0 where the fraction is not valid. -/
def flV (n d : Int) : Int := if okB n d = true then n / d else 0
/-- Below 0, rounded towards 0: what it has to do with the floor. -/
theorem fl_neg {n d T M : Int} (h0 : n < 0) (hd : 1 ≤ d) (hT : n.tdiv d = T) (hM : n.tmod d = M) : n ≤ T ∧ T ≤ 0 ∧ (M < 0 → n / d = T - 1) ∧ (0 ≤ M → n / d = T) ∧ M ≤ 0 ∧ n = d * T + M := by
  obtain ⟨m, rfl⟩ : ∃ m : Int, n = -m := ⟨-n, by omega⟩
  rw [Int.neg_tdiv, Int.tdiv_eq_ediv_of_nonneg (by omega)] at hT
  rw [Int.neg_tmod, Int.tmod_eq_emod_of_nonneg (by omega)] at hM
  have h1 := Int.emod_nonneg m (show d ≠ 0 by omega)
  have h2 := Int.emod_lt_of_pos m (show 0 < d by omega)
  have h3 := Int.mul_ediv_add_emod m d
  have h4 : 0 ≤ m / d := Int.ediv_nonneg (by omega) (by omega)
  have h5 : m / d ≤ m := Int.ediv_le_self d (by omega)
  subst hT hM
  have h6 : d * -(m / d) = -(d * (m / d)) := Int.mul_neg ..
  refine ⟨by omega, by omega, fun g => ?_, fun g => ?_, by omega, by rw [h6]; omega⟩
  · have e : d * (-(m / d) - 1) = -(d * (m / d)) - d := by rw [Int.mul_sub, h6, Int.mul_one]
    exact ((Int.ediv_emod_unique (show 0 < d by omega)).2 ⟨show (d - m % d) + d * (-(m / d) - 1) = -m by rw [e]; omega, by omega, by omega⟩).1
  · exact ((Int.ediv_emod_unique (show 0 < d by omega)).2 ⟨show 0 + d * (-(m / d)) = -m by rw [h6]; omega, by omega, by omega⟩).1
theorem rem_ne {n d T M : Int} (hk : okB n d = true) (hd : d ≠ 1) (h : n = d * T + M) : M ≠ 0 := by
  intro hM
  have h1 := okB_den hk
  have h2 := okB_gcd hk
  have h3 : d.natAbs ∣ n.natAbs := Int.natAbs_dvd_natAbs.2 ⟨T, by omega⟩
  rw [Nat.gcd_eq_right h3] at h2
  omega

set_option maxHeartbeats 400000 in
theorem floor14_any (n d : Int) (w : World) (hn : I64 n) (hd : I64 d) :
    Calls Try.prog 20 #[.agg #[.int .i64 n, .int .i64 d]] w fun e w' => e = .returned (.tuple #[.int .i64 (flV n d), .int .i64 (ckE n d)]) ∧ Gr w w' := by
  have HN := Lib.hid hn
  have HD := Lib.hid hd
  by_cases hk : okB n d = true
  · have e1 := ckE_ok hk
    have e2 : flV n d = n / d := by simp [flV, hk]
    have d1 := okB_den hk
    have d2 := hd.2
    have d3 := hn.1
    have d4 := hn.2
    have d5 := okB_num hk
    rw [e2, e1]
    clear hk e2 hn hd
    by_cases h0 : 0 ≤ n
    · have m1 : decide (n % d < 0) = false := by have := Int.emod_nonneg n (show d ≠ 0 by omega); simp; omega
      have n01 : w.heap.size < w.heap.size + 1 + 1 := by omega
      have n02 : w.heap.size < w.heap.size + 1 + 1 + 1 := by omega
      have n12 : w.heap.size + 1 < w.heap.size + 1 + 1 + 1 := by omega
      go_enter Try.func20, Try.ntmps20
      go_wp2_with fail
      refine (check_any _ _ _ HN.out.1 HN.out.2 HD.out.1 HD.out.2).mono ?_
      rintro e w1 ⟨rfl, hgw1⟩
      have hcw1 := Gr.cells hgw1
      have hfw1 := Gr.marks hgw1
      have hzzw1 := Gr.size hgw1
      try simp at hzzw1
      have hzw10 : w.heap.size < w1.heap.size := by omega
      clear hzzw1
      go_wp2
      go_ret2
      refine ⟨rfl, ?_⟩
      repeat (first | exact Gr.refl _ | apply Gr.alloc | apply Gr.drewN | apply Gr.drew | (refine Gr.setCell ?_ (by simp) _) | (refine Gr.trans ?_ (by assumption)))
    · obtain ⟨T, hT⟩ : ∃ T : Int, n.tdiv d = T := ⟨_, rfl⟩
      obtain ⟨M, hM⟩ : ∃ M : Int, n.tmod d = M := ⟨_, rfl⟩
      obtain ⟨f1, f2, f3, f4, f5, f6⟩ := fl_neg (by omega) d1 hT hM
      have F3 := Lib.hid f3
      have F4 := Lib.hid f4
      have D5 := Lib.hid d5
      have d6 : -9223372036854775807 ≤ n := by omega
      clear f3 f4 f6 d5
      have n01 : w.heap.size < w.heap.size + 1 + 1 := by omega
      have n02 : w.heap.size < w.heap.size + 1 + 1 + 1 := by omega
      have n12 : w.heap.size + 1 < w.heap.size + 1 + 1 + 1 := by omega
      go_enter Try.func20, Try.ntmps20
      go_wp2_with fail
      refine (check_any _ _ _ HN.out.1 HN.out.2 HD.out.1 HD.out.2).mono ?_
      rintro e w1 ⟨rfl, hgw1⟩
      have hcw1 := Gr.cells hgw1
      have hfw1 := Gr.marks hgw1
      have hzzw1 := Gr.size hgw1
      try simp at hzzw1
      have hzw10 : w.heap.size < w1.heap.size := by omega
      clear hzzw1
      go_wp2
      · have g : M < 0 := by assumption
        go_ret2
        refine ⟨ret_int2 (F3.out g).symm rfl, ?_⟩
        repeat (first | exact Gr.refl _ | apply Gr.alloc | apply Gr.drewN | apply Gr.drew | (refine Gr.setCell ?_ (by simp) _) | (refine Gr.trans ?_ (by assumption)))
      · have g : 0 ≤ M := by assumption
        go_ret2
        refine ⟨ret_int2 (F4.out g).symm rfl, ?_⟩
        repeat (first | exact Gr.refl _ | apply Gr.alloc | apply Gr.drewN | apply Gr.drew | (refine Gr.setCell ?_ (by simp) _) | (refine Gr.trans ?_ (by assumption)))
  · have e1 := ckE_bad hk
    have e2 : flV n d = 0 := by simp [flV, hk]
    rw [e2]
    clear hk e2 hn hd
    have n01 : w.heap.size < w.heap.size + 1 + 1 := by omega
    have n02 : w.heap.size < w.heap.size + 1 + 1 + 1 := by omega
    have n12 : w.heap.size + 1 < w.heap.size + 1 + 1 + 1 := by omega
    go_enter Try.func20, Try.ntmps20
    go_wp2_with fail
    refine (check_any _ _ _ HN.out.1 HN.out.2 HD.out.1 HD.out.2).mono ?_
    rintro e w1 ⟨rfl, hgw1⟩
    have hcw1 := Gr.cells hgw1
    have hfw1 := Gr.marks hgw1
    have hzzw1 := Gr.size hgw1
    try simp at hzzw1
    have hzw10 : w.heap.size < w1.heap.size := by omega
    clear hzzw1
    go_wp2
    go_ret2
    refine ⟨ret_int2 rfl e1.symm, ?_⟩
    repeat (first | exact Gr.refl _ | apply Gr.alloc | apply Gr.drewN | apply Gr.drew | (refine Gr.setCell ?_ (by simp) _) | (refine Gr.trans ?_ (by assumption)))

set_option maxHeartbeats 400000 in
theorem floor23_any (n d : Int) (w : World) (hn : I64 n) (hd : I64 d) :
    Calls Try.prog 29 #[.agg #[.int .i64 n, .int .i64 d]] w fun e w' => e = .returned (.tuple #[.int .i64 (flV n d), .int .i64 (ckE n d)]) ∧ Gr w w' := by
  have HN := Lib.hid hn
  have HD := Lib.hid hd
  by_cases hk : okB n d = true
  · have e1 := ckE_ok hk
    have e2 : flV n d = n / d := by simp [flV, hk]
    have d1 := okB_den hk
    have d2 := hd.2
    have d3 := hn.1
    have d4 := hn.2
    have d5 := okB_num hk
    have HK := Lib.hid hk
    rw [e2, e1]
    clear hk e2 hn hd
    by_cases h0 : 0 ≤ n
    · have m1 : decide (0 ≤ n) = true := by simpa using h0
      have n01 : w.heap.size < w.heap.size + 1 + 1 := by omega
      have n02 : w.heap.size < w.heap.size + 1 + 1 + 1 := by omega
      have n12 : w.heap.size + 1 < w.heap.size + 1 + 1 + 1 := by omega
      go_enter Try.func29, Try.ntmps29
      go_wp2_with fail
      refine (check24_any _ _ _ HN.out.1 HN.out.2 HD.out.1 HD.out.2).mono ?_
      rintro e w1 ⟨rfl, hgw1⟩
      have hcw1 := Gr.cells hgw1
      have hfw1 := Gr.marks hgw1
      have hzzw1 := Gr.size hgw1
      try simp at hzzw1
      have hzw10 : w.heap.size < w1.heap.size := by omega
      clear hzzw1
      go_wp2
      go_ret2
      refine ⟨rfl, ?_⟩
      repeat (first | exact Gr.refl _ | apply Gr.alloc | apply Gr.drewN | apply Gr.drew | (refine Gr.setCell ?_ (by simp) _) | (refine Gr.trans ?_ (by assumption)))
    · have m1 : decide (0 ≤ n) = false := by simpa using h0
      obtain ⟨T, hT⟩ : ∃ T : Int, n.tdiv d = T := ⟨_, rfl⟩
      obtain ⟨M, hM⟩ : ∃ M : Int, n.tmod d = M := ⟨_, rfl⟩
      obtain ⟨f1, f2, f3, f4, f5, f6⟩ := fl_neg (by omega) d1 hT hM
      have F3 := Lib.hid f3
      have F4 := Lib.hid f4
      have F6 := Lib.hid f6
      have D5 := Lib.hid d5
      have d6 : -9223372036854775807 ≤ n := by omega
      clear f3 f4 f6 d5 hM
      by_cases hd1 : d = 1
      · have m2 : (d == 1) = true := by simpa using hd1
        have e3 : Hid (T = n / d) := by subst hd1; exact Lib.hid (by rw [← hT]; simp)
        clear hd1
        have n01 : w.heap.size < w.heap.size + 1 + 1 := by omega
        have n02 : w.heap.size < w.heap.size + 1 + 1 + 1 := by omega
        have n12 : w.heap.size + 1 < w.heap.size + 1 + 1 + 1 := by omega
        go_enter Try.func29, Try.ntmps29
        go_wp2_with fail
        refine (check24_any _ _ _ HN.out.1 HN.out.2 HD.out.1 HD.out.2).mono ?_
        rintro e w1 ⟨rfl, hgw1⟩
        have hcw1 := Gr.cells hgw1
        have hfw1 := Gr.marks hgw1
        have hzzw1 := Gr.size hgw1
        try simp at hzzw1
        have hzw10 : w.heap.size < w1.heap.size := by omega
        clear hzzw1
        go_wp2
        go_ret2
        refine ⟨ret_int2 e3.out rfl, ?_⟩
        repeat (first | exact Gr.refl _ | apply Gr.alloc | apply Gr.drewN | apply Gr.drew | (refine Gr.setCell ?_ (by simp) _) | (refine Gr.trans ?_ (by assumption)))
      · have m2 : (d == 1) = false := by simpa using hd1
        have e3 : Hid (T - 1 = n / d) := Lib.hid (F3.out (by have := rem_ne HK.out hd1 F6.out; omega)).symm
        clear hd1
        have n01 : w.heap.size < w.heap.size + 1 + 1 := by omega
        have n02 : w.heap.size < w.heap.size + 1 + 1 + 1 := by omega
        have n12 : w.heap.size + 1 < w.heap.size + 1 + 1 + 1 := by omega
        go_enter Try.func29, Try.ntmps29
        go_wp2_with fail
        refine (check24_any _ _ _ HN.out.1 HN.out.2 HD.out.1 HD.out.2).mono ?_
        rintro e w1 ⟨rfl, hgw1⟩
        have hcw1 := Gr.cells hgw1
        have hfw1 := Gr.marks hgw1
        have hzzw1 := Gr.size hgw1
        try simp at hzzw1
        have hzw10 : w.heap.size < w1.heap.size := by omega
        clear hzzw1
        go_wp2
        go_ret2
        refine ⟨ret_int2 e3.out rfl, ?_⟩
        repeat (first | exact Gr.refl _ | apply Gr.alloc | apply Gr.drewN | apply Gr.drew | (refine Gr.setCell ?_ (by simp) _) | (refine Gr.trans ?_ (by assumption)))
  · have e1 := ckE_bad hk
    have e2 : flV n d = 0 := by simp [flV, hk]
    rw [e2, e1]
    clear hk e2 hn hd
    have n01 : w.heap.size < w.heap.size + 1 + 1 := by omega
    have n02 : w.heap.size < w.heap.size + 1 + 1 + 1 := by omega
    have n12 : w.heap.size + 1 < w.heap.size + 1 + 1 + 1 := by omega
    go_enter Try.func29, Try.ntmps29
    go_wp2_with fail
    refine (check24_any _ _ _ HN.out.1 HN.out.2 HD.out.1 HD.out.2).mono ?_
    rintro e w1 ⟨rfl, hgw1⟩
    have hcw1 := Gr.cells hgw1
    have hfw1 := Gr.marks hgw1
    have hzzw1 := Gr.size hgw1
    try simp at hzzw1
    have hzw10 : w.heap.size < w1.heap.size := by omega
    clear hzzw1
    go_wp2_with fail
    refine (check24_any _ _ _ HN.out.1 HN.out.2 HD.out.1 HD.out.2).mono ?_
    rintro e w2 ⟨rfl, hgw2⟩
    have hcw2 := Gr.cells hgw2
    have hfw2 := Gr.marks hgw2
    have hzzw2 := Gr.size hgw2
    try simp at hzzw2
    have hzw20 : w.heap.size < w2.heap.size := by omega
    clear hzzw2
    go_wp2
    go_ret2
    refine ⟨rfl, ?_⟩
    repeat (first | exact Gr.refl _ | apply Gr.alloc | apply Gr.drewN | apply Gr.drew | (refine Gr.setCell ?_ (by simp) _) | (refine Gr.trans ?_ (by assumption)))

/-- What Make makes of the sizes: lowest terms, whether both fit, the sign, the error. -/
def mkQ (a b : Int) : Nat := a.natAbs / Nat.gcd a.natAbs b.natAbs
def mkP (a b : Int) : Nat := b.natAbs / Nat.gcd a.natAbs b.natAbs
def mkS (a b : Int) : Bool := !(decide (a < 0) == decide (b < 0))
def mkF (a b : Int) : Bool := fitB (mkQ a b) && fitB (mkP a b)
def mkN (a b : Int) : Int := if b = 0 then 0 else selI (mkF a b) (sgV (mkQ a b) (mkS a b))
def mkD (a b : Int) : Int := if b = 0 then 0 else selI (mkF a b) (sgV (mkP a b) false)
def mkE (a b : Int) : Int := if b = 0 then 26 else selE (mkF a b)
theorem ret_r {a b c d e f : Int} (h : a = b) (g : c = d) (k : e = f) : Ending.returned (.tuple #[.agg #[.int .i64 a, .int .i64 c], .int .i64 e]) = .returned (.tuple #[.agg #[.int .i64 b, .int .i64 d], .int .i64 f]) := by rw [h, g, k]

set_option maxHeartbeats 400000 in
theorem make17_any (n d : Int) (w : World) (hn : I64 n) (hd : I64 d) :
    Calls Try.prog 23 #[.int .i64 n, .int .i64 d] w fun e w' => e = .returned (.tuple #[.agg #[.int .i64 (mkN n d), .int .i64 (mkD n d)], .int .i64 (mkE n d)]) ∧ Gr w w' := by
  have HN := Lib.hid hn
  have HD := Lib.hid hd
  have d1 := hd.1
  have d2 := hd.2
  have d3 := hn.1
  have d4 := hn.2
  clear hn hd
  by_cases h0 : d = 0
  · have m1 : (d == 0) = true := by simpa using h0
    have E0 := Lib.hid h0
    clear h0
    have n01 : w.heap.size < w.heap.size + 1 + 1 := by omega
    have n02 : w.heap.size < w.heap.size + 1 + 1 + 1 := by omega
    have n12 : w.heap.size + 1 < w.heap.size + 1 + 1 + 1 := by omega
    go_enter Try.func23, Try.ntmps23
    go_wp2
    refine bodyPost_ret (v := .tuple #[.agg #[.int .i64 0, .int .i64 0], .int .i64 26]) (by simp [results, Try.results23, go_sem]) rfl ⟨ret_r (by simp [mkN, E0.out]) (by simp [mkD, E0.out]) (by simp [mkE, E0.out]), ?_⟩
    repeat (first | exact Gr.refl _ | apply Gr.alloc | apply Gr.drewN | apply Gr.drew | (refine Gr.setCell ?_ (by simp) _) | (refine Gr.trans ?_ (by assumption)))
  · have m1 : (d == 0) = false := by simpa using h0
    obtain ⟨z1, hz1⟩ : ∃ z : Int, z = n.natAbs := ⟨_, rfl⟩
    obtain ⟨z2, hz2⟩ : ∃ z : Int, z = d.natAbs := ⟨_, rfl⟩
    obtain ⟨g, hg⟩ : ∃ g : Int, g = (Nat.gcd n.natAbs d.natAbs : Nat) := ⟨_, rfl⟩
    obtain ⟨q1, hq1⟩ : ∃ q : Int, q = (mkQ n d : Nat) := ⟨_, rfl⟩
    obtain ⟨q2, hq2⟩ : ∃ q : Int, q = (mkP n d : Nat) := ⟨_, rfl⟩
    obtain ⟨b, hb⟩ : ∃ b : Bool, b = mkS n d := ⟨_, rfl⟩
    have hg0 : 0 < Nat.gcd n.natAbs d.natAbs := Nat.gcd_pos_of_pos_right _ (by omega)
    have i1 := Nat.div_le_self n.natAbs (Nat.gcd n.natAbs d.natAbs)
    have i2 := Nat.div_le_self d.natAbs (Nat.gcd n.natAbs d.natAbs)
    have r1 : z1 / g = q1 := by rw [hz1, hg, hq1]; rfl
    have r2 : z2 / g = q2 := by rw [hz2, hg, hq2]; rfl
    have j1 : mkQ n d < 18446744073709551616 := by unfold mkQ; omega
    have j2 : mkP n d < 18446744073709551616 := by unfold mkP; omega
    have g0 : 1 ≤ g := by omega
    have z10 : 0 ≤ z1 := by omega
    have z20 : 0 ≤ z2 := by omega
    have z11 : z1 < 18446744073709551616 := by omega
    have z21 : z2 < 18446744073709551616 := by omega
    have q10 : 0 ≤ q1 := by omega
    have q20 : 0 ≤ q2 := by omega
    have q11 : q1 < 18446744073709551616 := by omega
    have q21 : q2 < 18446744073709551616 := by omega
    have rb : (decide (n < 0) == decide (d < 0)) = !b := by rw [hb]; simp [mkS]
    have H0 := Lib.hid h0
    have Z1 := Lib.hid hz1
    have Z2 := Lib.hid hz2
    have G := Lib.hid hg
    have Q1 := Lib.hid hq1
    have Q2 := Lib.hid hq2
    have B := Lib.hid hb
    have J1 := Lib.hid j1
    have J2 := Lib.hid j2
    clear hz1 hz2 hg hq1 hq2 hb hg0 i1 i2 j1 j2 h0
    cases hf : fitB (mkQ n d)
    · have n01 : w.heap.size < w.heap.size + 1 + 1 := by omega
      have n02 : w.heap.size < w.heap.size + 1 + 1 + 1 := by omega
      have n12 : w.heap.size + 1 < w.heap.size + 1 + 1 + 1 := by omega
      go_enter Try.func23, Try.ntmps23
      go_wp2_with fail
      refine (size_z n z1 _ Z1.out d3 d4).mono ?_
      rintro e w' ⟨rfl, rfl⟩
      go_wp2_with fail
      refine (size_z d z2 _ Z2.out d1 d2).mono ?_
      rintro e w' ⟨rfl, rfl⟩
      go_wp2_with fail
      refine (divisor_z _ _ z1 z2 g _ Z1.out Z2.out G.out (by have := HN.out; unfold I64 at this; omega) (by have := HD.out; unfold I64 at this; omega)).mono ?_
      rintro e w1 ⟨rfl, hgw1⟩
      have hcw1 := Gr.cells hgw1
      have hfw1 := Gr.marks hgw1
      have hzzw1 := Gr.size hgw1
      try simp at hzzw1
      have hzw10 : w.heap.size < w1.heap.size := by omega
      clear hzzw1
      go_wp2_with fail
      refine (size_z n z1 _ Z1.out d3 d4).mono ?_
      rintro e w' ⟨rfl, rfl⟩
      go_wp2_with fail
      refine (signed_z (mkQ n d) q1 b _ Q1.out J1.out).mono ?_
      rintro e w' ⟨rfl, rfl⟩
      go_wp2_with fail
      refine (size_z d z2 _ Z2.out d1 d2).mono ?_
      rintro e w' ⟨rfl, rfl⟩
      go_wp2_with fail
      refine (signed_z (mkP n d) q2 false _ Q2.out J2.out).mono ?_
      rintro e w' ⟨rfl, rfl⟩
      go_wp2_with fail
      refine (result_any _ _ _ _).mono ?_
      rintro e w2 ⟨rfl, hgw2⟩
      have hcw2 := Gr.cells hgw2
      have hfw2 := Gr.marks hgw2
      have hzzw2 := Gr.size hgw2
      try simp at hzzw2
      have hzw20 : w.heap.size < w2.heap.size := by omega
      clear hzzw2
      go_wp2
      refine bodyPost_ret (v := .tuple #[.agg #[.int .i64 0, .int .i64 0], .int .i64 16]) (by simp [results, Try.results23, go_sem, selI, selE, *]) rfl ⟨ret_r (by simp [mkN, mkF, hf, selI]) (by simp [mkD, mkF, hf, selI]) (by simp [mkE, mkF, hf, selE, H0.out]), ?_⟩
      repeat (first | exact Gr.refl _ | apply Gr.alloc | apply Gr.drewN | apply Gr.drew | (refine Gr.setCell ?_ (by simp) _) | (refine Gr.trans ?_ (by assumption)))
    · have n01 : w.heap.size < w.heap.size + 1 + 1 := by omega
      have n02 : w.heap.size < w.heap.size + 1 + 1 + 1 := by omega
      have n12 : w.heap.size + 1 < w.heap.size + 1 + 1 + 1 := by omega
      go_enter Try.func23, Try.ntmps23
      go_wp2_with fail
      refine (size_z n z1 _ Z1.out d3 d4).mono ?_
      rintro e w' ⟨rfl, rfl⟩
      go_wp2_with fail
      refine (size_z d z2 _ Z2.out d1 d2).mono ?_
      rintro e w' ⟨rfl, rfl⟩
      go_wp2_with fail
      refine (divisor_z _ _ z1 z2 g _ Z1.out Z2.out G.out (by have := HN.out; unfold I64 at this; omega) (by have := HD.out; unfold I64 at this; omega)).mono ?_
      rintro e w1 ⟨rfl, hgw1⟩
      have hcw1 := Gr.cells hgw1
      have hfw1 := Gr.marks hgw1
      have hzzw1 := Gr.size hgw1
      try simp at hzzw1
      have hzw10 : w.heap.size < w1.heap.size := by omega
      clear hzzw1
      go_wp2_with fail
      refine (size_z n z1 _ Z1.out d3 d4).mono ?_
      rintro e w' ⟨rfl, rfl⟩
      go_wp2_with fail
      refine (signed_z (mkQ n d) q1 b _ Q1.out J1.out).mono ?_
      rintro e w' ⟨rfl, rfl⟩
      go_wp2_with fail
      refine (size_z d z2 _ Z2.out d1 d2).mono ?_
      rintro e w' ⟨rfl, rfl⟩
      go_wp2_with fail
      refine (signed_z (mkP n d) q2 false _ Q2.out J2.out).mono ?_
      rintro e w' ⟨rfl, rfl⟩
      go_wp2_with fail
      refine (result_any _ _ _ _).mono ?_
      rintro e w2 ⟨rfl, hgw2⟩
      have hcw2 := Gr.cells hgw2
      have hfw2 := Gr.marks hgw2
      have hzzw2 := Gr.size hgw2
      try simp at hzzw2
      have hzw20 : w.heap.size < w2.heap.size := by omega
      clear hzzw2
      go_wp2
      refine bodyPost_ret (v := .tuple #[.agg #[.int .i64 (selI (fitB (mkP n d)) (sgV (mkQ n d) b)), .int .i64 (selI (fitB (mkP n d)) (sgV (mkP n d) false))], .int .i64 (selE (fitB (mkP n d)))]) (by simp [results, Try.results23, go_sem, *]) rfl ⟨ret_r (by simp [mkN, mkF, hf, H0.out, B.out]) (by simp [mkD, mkF, hf, H0.out]) (by simp [mkE, mkF, hf, H0.out]), ?_⟩
      repeat (first | exact Gr.refl _ | apply Gr.alloc | apply Gr.drewN | apply Gr.drew | (refine Gr.setCell ?_ (by simp) _) | (refine Gr.trans ?_ (by assumption)))
end Go.Proofs.Ytjhkeinelbeekaa
