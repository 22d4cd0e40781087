/-
  CourseMeets: Ahead, Meet and Fails return what the reference returns. Conditions: none.
-/
import Derived.Test.YtjhkeinelbeekaaCt
import Derived.Test.YtjhkeinelbeekaaCu
namespace Go.Proofs.Ytjhkeinelbeekaa
open Go.RowKit

theorem bigN_low {x : Nat} (h : x < 18446744073709551616) : bigN false x = bigV false 0 (x : Int) := by
  unfold bigN
  rw [show x / 18446744073709551616 = 0 by omega, show x % 18446744073709551616 = x by omega]
  rfl
theorem RMake_res {a b : Int} (ha : I64 a) (hb : I64 b) (h0 : b ≠ 0) : ∃ N D E, IsRes a b N D E ∧ Pure Try.prog 27 #[.int .i64 a, .int .i64 b] (.tuple #[ratioV N D, .int .i64 E]) := by
  have za := Rsize_any a ha
  have zb := Rsize_any b hb
  unfold I64 at ha hb
  obtain ⟨g, hg⟩ : ∃ g, g = Nat.gcd a.natAbs b.natAbs := ⟨_, rfl⟩
  have g0 : 0 < g := hg ▸ Nat.gcd_pos_of_pos_right _ (by omega)
  have gg := Rcommon_any a.natAbs b.natAbs g (by omega) (by omega) hg
  obtain ⟨x, hx⟩ : ∃ x, x = a.natAbs / g := ⟨_, rfl⟩
  obtain ⟨y, hy⟩ : ∃ y, y = b.natAbs / g := ⟨_, rfl⟩
  have ax : a.natAbs = g * x := by rw [hx, hg]; exact (Nat.mul_div_cancel' (Nat.gcd_dvd_left _ _)).symm
  have bY : b.natAbs = g * y := by rw [hy, hg]; exact (Nat.mul_div_cancel' (Nat.gcd_dvd_right _ _)).symm
  have hxy : Nat.gcd x y = 1 := by rw [hx, hy, hg]; exact Nat.gcd_div_gcd_div_gcd_of_pos_right (by omega)
  have y0 : 0 < y := by
    rcases Nat.eq_zero_or_pos y with e | e
    · rw [e, Nat.mul_zero] at bY; omega
    · exact e
  have lx := Nat.div_le_self a.natAbs g
  have ly := Nat.div_le_self b.natAbs g
  rw [← hx] at lx
  rw [← hy] at ly
  have q1 := quoU (x := a.natAbs) (y := g) (by omega)
  have q2 := quoU (x := b.natAbs) (y := g) (by omega)
  rw [← hx] at q1
  rw [← hy] at q2
  have md : ∀ neg, Pure Try.prog 67 #[.bool neg, bigV false 0 (x : Int), bigV false 0 (y : Int)] (.tuple #[ratioV (selI (fitB x && fitB y) (sgV x neg)) (selI (fitB x && fitB y) (y : Int)), .int .i64 (selE (fitB x && fitB y))]) := by
    intro neg
    have := RMade_any neg false false x y
    rwa [bigN_low (by omega), bigN_low (by omega)] at this
  have fin : ∀ (T : Int) (neg : Bool), T.natAbs = x → decide (T < 0) = neg → T * b = a * (y : Int) → IsRes a b (selI (fitB x && fitB y) (sgV x neg)) (selI (fitB x && fitB y) (y : Int)) (selE (fitB x && fitB y)) := by
    intro T neg h1 h2 h3
    have := isRes_of (p := a) (q := b) (T := T) (U := (y : Int)) h0 (by omega) (by rw [h1, Int.natAbs_natCast]; exact hxy) h3
    rw [h1, h2, Int.natAbs_natCast, df (show ¬ (y : Int) < 0 by omega), selI_sg (fun h => by simp only [Bool.and_eq_true] at h; simpa [fitB] using h.2)] at this
    exact this
  have gz : ¬ (g : Int) = 0 := by omega
  have cx : (x : Int) * ((g * y : Nat) : Int) = ((g * x : Nat) : Int) * (y : Int) := by rw [← Int.natCast_mul, ← Int.natCast_mul]; congr 1; rw [Nat.mul_left_comm, Nat.mul_assoc]
  by_cases sa : a < 0 <;> by_cases sb : b < 0
  · refine ⟨_, _, _, fin (x : Int) false (by simp) (df (by omega)) ?_, rMake_ttx (by simp [h0]) za zb gg (dt sa) (dt sb) gz q1 q2 (md false)⟩
    rw [show b = -((g * y : Nat) : Int) by omega, show a = -((g * x : Nat) : Int) by omega, Int.mul_neg, Int.neg_mul, cx]
  · refine ⟨_, _, _, fin (-(x : Int)) true (by simp) (dt ?_) ?_, rMake_tft (by simp [h0]) za zb gg (dt sa) (df sb) (by simp; omega) gz q1 q2 (md true)⟩
    · rcases Nat.eq_zero_or_pos x with e | e
      · rw [e, Nat.mul_zero] at ax; omega
      · omega
    · rw [show b = ((g * y : Nat) : Int) by omega, show a = -((g * x : Nat) : Int) by omega, Int.neg_mul, Int.neg_mul, cx]
  · by_cases z : a = 0
    · refine ⟨_, _, _, fin 0 false ?_ rfl (by rw [z]; simp), rMake_ftf (by simp [h0]) za zb gg (df sa) (dt sb) (by simp [z]) gz q1 q2 (md false)⟩
      rw [hx, z]; simp
    · refine ⟨_, _, _, fin (-(x : Int)) true (by simp) (dt ?_) ?_, rMake_ftt (by simp [h0]) za zb gg (df sa) (dt sb) (by simp [z]) gz q1 q2 (md true)⟩
      · rcases Nat.eq_zero_or_pos x with e | e
        · rw [e, Nat.mul_zero] at ax; omega
        · omega
      · rw [show b = -((g * y : Nat) : Int) by omega, show a = ((g * x : Nat) : Int) by omega, Int.neg_mul_neg, cx]
  · refine ⟨_, _, _, fin (x : Int) false (by simp) (df (by omega)) ?_, rMake_ffx (by simp [h0]) za zb gg (df sa) (df sb) gz q1 q2 (md false)⟩
    rw [show b = ((g * y : Nat) : Int) by omega, show a = ((g * x : Nat) : Int) by omega, cx]

theorem Met_ok {pi pa pb qi qa qb m k : Int} (hp : okP pi pa pb = true) (hq : okP qi qa qb = true) (hb : pb ≠ qb) (h1 : okB m k = true) (h2 : I64 m) (h3 : I64 k) (h4 : m * (pb - qb) = (qa - pa) * k) :
    Pure Try.prog 81 #[pointV pi pa pb, pointV qi qa qb] (ratioV m k) := by
  have hp' := okP_iff.1 hp
  have hq' := okP_iff.1 hq
  obtain ⟨N, D, E, hr, hm⟩ := RMake_res (a := pa - qa) (b := qb - pb) (by unfold I64; omega) (by unfold I64; omega) (by omega)
  obtain ⟨rfl, rfl, rfl⟩ := hr.one (by omega) h1 h2 h3 (by
    rw [show qb - pb = -(pb - qb) by omega, show pa - qa = -(qa - pa) by omega, Int.mul_neg, Int.neg_mul, h4])
  exact met_path (by rw [wrap_i64_in (by omega) (by omega)]) (by rw [wrap_i64_in (by omega) (by omega)]) hm

theorem Leads_ok {pi pa pb qi qa qb n d : Int} (hn : I64 n) (hd : I64 d) (hp : okP pi pa pb = true) (hq : okP qi qa qb = true) :
    Pure Try.prog 80 #[pointV pi pa pb, pointV qi qa qb, ratioV n d] (.bool (leadsB (pa * d + pb * n) (qa * d + qb * n) pb qb pi qi)) := by
  have hp' := okP_iff.1 hp
  have hq' := okP_iff.1 hq
  have c1 := RProduct_any (pa - qa) d (by unfold I64; omega) hd
  have c2 := RProduct_any (pb - qb) n (by unfold I64; omega) hn
  have b1 : ((pa - qa) * d).natAbs ≤ 2097152 * 9223372036854775808 := by rw [Int.natAbs_mul]; unfold I64 at hd; exact Nat.mul_le_mul (by omega) (by omega)
  have b2 : ((pb - qb) * n).natAbs ≤ 2097152 * 9223372036854775808 := by rw [Int.natAbs_mul]; unfold I64 at hn; exact Nat.mul_le_mul (by omega) (by omega)
  have c3 := RPlus_any ((pa - qa) * d) ((pb - qb) * n) (by omega) (by omega)
  have e : (pa - qa) * d + (pb - qb) * n = pa * d + pb * n - (qa * d + qb * n) := by rw [Int.sub_mul, Int.sub_mul]; omega
  rw [e] at c3
  have c4 := RSign_any (pa * d + pb * n - (qa * d + qb * n))
  have far := far_path (pi := pi) (pa := pa) (pb := pb) (qi := qi) (qa := qa) (qb := qb) (by rw [wrap_i64_in (by omega) (by omega)]) c1 (by rw [wrap_i64_in (by omega) (by omega)]) c2 c3 c4
  generalize pa * d + pb * n = P at *
  generalize qa * d + qb * n = Q at *
  rcases Int.lt_trichotomy (P - Q) 0 with h | h | h
  · rw [Int.sign_eq_neg_one_of_neg h] at far
    rw [leads_f (by omega)]
    exact leads_far_f far (by decide) (by decide)
  · rw [h] at far
    by_cases hb : pb = qb
    · by_cases hi : pi < qi
      · rw [leads_t (by omega)]; exact leads_i_t far (by decide) (by simp [hb]) (dt hi)
      · rw [leads_f (by omega)]; exact leads_i_f far (by decide) (by simp [hb]) (df hi)
    · by_cases hg : pb > qb
      · rw [leads_t (by omega)]; exact leads_b_t far (by decide) (by simp [hb]) (dt hg)
      · rw [leads_f (by omega)]; exact leads_b_f far (by decide) (by simp [hb]) (df hg)
  · rw [Int.sign_eq_one_of_pos h] at far
    rw [leads_t (by omega)]
    exact leads_far_t far (by decide) (by decide)

theorem Check02_ex (n a b : Int) : ∃ e, Pure Try.prog 44 #[pointV n a b] (.int .i64 e) := by
  by_cases h : okP n a b = true
  · exact ⟨_, Check02_ok h⟩
  · exact ⟨_, Check02_bad h⟩
theorem checkIDs_ex (pi pa pb qi qa qb : Int) : ∃ e, Pure Try.prog 74 #[pointV pi pa pb, pointV qi qa qb] (.int .i64 e) := by
  by_cases h : pi = qi
  · exact ⟨_, ids_e (by simp [h])⟩
  · exact ⟨_, ids_n (by simp [h])⟩
theorem Check_ex {n d : Int} (hn : I64 n) (hd : I64 d) : ∃ e, Pure Try.prog 21 #[ratioV n d] (.int .i64 e) := by
  by_cases h : okB n d = true
  · exact ⟨_, Check_ok hn hd h⟩
  · exact ⟨_, Check_bad hn hd h⟩

theorem meet_both (pi pa pb qi qa qb : Int) : ∃ m k e, Pure Try.prog 41 #[pointV pi pa pb, pointV qi qa qb] (.tuple #[ratioV m k, .int .i64 e]) ∧ Pure Try.prog 49 #[pointV pi pa pb, pointV qi qa qb] (.tuple #[ratioV m k, .int .i64 e]) := by
  obtain ⟨e1, x1⟩ := Check02_ex qi qa qb
  obtain ⟨e2, x2⟩ := checkIDs_ex pi pa pb qi qa qb
  have ht : Pure Try.prog 30 #[ratioV 0 1] (.int .i64 0) := RCheck_ok (by unfold I64; omega) (by unfold I64; omega) (by decide)
  by_cases h1 : okP pi pa pb = true
  · have c1 := Check02_ok h1
    have r1 := RCheck02_ok h1
    by_cases h2 : okP qi qa qb = true
    · have c2 := Check02_ok h2
      have r2 := RCheck02_ok h2
      by_cases h4 : pi = qi
      · exact ⟨0, 0, 2, meet_e2 c1 c2 (ids_e (by simp [h4])), rmeet_bad (two_i r1 r2 ht (by simp [h4])) (by decide)⟩
      · have tw : Pure Try.prog 52 #[pointV pi pa pb, pointV qi qa qb, ratioV 0 1] (.int .i64 0) := two_ok r1 r2 ht (by simp [h4])
        by_cases hb : pb = qb
        · subst hb
          exact ⟨0, 0, 6, Meet_same h1 h2 h4, rmeet_same tw (by simp)⟩
        · obtain ⟨m, k, k1, k2, k3, k4, k5⟩ := meeting_ok h1 h2 hb
          exact ⟨m, k, 0, Meet_diff h1 h2 h4 hb k5, rmeet_diff tw (by simp [hb]) (Met_ok h1 h2 hb k1 k2 k3 k4)⟩
    · exact ⟨0, 0, 8, meet_e1 c1 (Check02_bad h2) x2, rmeet_bad (two_q r1 (RCheck02_bad h2)) (by decide)⟩
  · exact ⟨0, 0, 8, meet_e0 (Check02_bad h1) x1 x2, rmeet_bad (two_p (RCheck02_bad h1)) (by decide)⟩

theorem fails_both {pi pa pb qi qa qb n d : Int} (hn : I64 n) (hd : I64 d) (h1 : okP pi pa pb = true) (h2 : okP qi qa qb = true) (h3 : okB n d = true) (h4 : pi ≠ qi) :
    ∃ m k s, Pure Try.prog 42 #[pointV pi pa pb, pointV qi qa qb, ratioV n d] (.tuple #[ratioV m k, .bool s, .int .i64 0]) ∧ Pure Try.prog 50 #[pointV pi pa pb, pointV qi qa qb, ratioV n d] (.tuple #[ratioV m k, .bool s, .int .i64 0]) := by
  have c1 := Check02_ok h1
  have c2 := Check02_ok h2
  have c3 := Check_ok hn hd h3
  have c4 := checkIDs_n (pa := pa) (pb := pb) (qa := qa) (qb := qb) h4
  have tw : Pure Try.prog 52 #[pointV pi pa pb, pointV qi qa qb, ratioV n d] (.int .i64 0) := two_ok (RCheck02_ok h1) (RCheck02_ok h2) (RCheck_ok hn hd h3) (by simp [h4])
  have ld := Leads_ok (pi := qi) (qi := pi) (n := n) (d := d) hn hd h2 h1
  have d0 : 0 < d := by have := okB_den h3; omega
  have now := fun (l : Pure Try.prog 80 #[pointV qi qa qb, pointV pi pa pb, ratioV n d] (.bool true)) => rfails_ok tw (failure_now (pi := pi) (pa := pa) (pb := pb) l)
  by_cases hb : qb = pb
  · subst hb
    have no := fun (l : Pure Try.prog 80 #[pointV qi qa qb, pointV pi pa qb, ratioV n d] (.bool false)) => rfails_ok tw (failure_no (pi := pi) (pa := pa) (pb := qb) l (df (by omega)))
    rw [leads_same d0] at ld
    by_cases ha : qa = pa
    · subst ha
      by_cases hi : qi < pi
      · rw [leads_t (by omega)] at ld
        exact ⟨n, d, true, fails_wt c1 c2 c3 c4 (by simp) (dt hi), now ld⟩
      · rw [leads_f (by omega)] at ld
        exact ⟨0, 0, false, fails_wf c1 c2 c3 c4 (by simp) (df hi) (df (by omega)), no ld⟩
    · by_cases hg : qa > pa
      · rw [leads_t (by omega)] at ld
        exact ⟨n, d, true, fails_bt c1 c2 c3 c4 (by simp [ha]) (by simp) (dt hg), now ld⟩
      · rw [leads_f (by omega)] at ld
        exact ⟨0, 0, false, fails_bf c1 c2 c3 c4 (by simp [ha]) (by simp) (df hg) (df (by omega)), no ld⟩
  · obtain ⟨m, k, k1, k2, k3, k4, k5, k6⟩ := meeting_both h2 h1 hb
    have k0 : 0 < k := by have := okB_den k1; omega
    have cc := Cmp_ok hn hd k2 k3 h3 k1
    rw [leads_meet k0 k4 hb] at ld
    generalize (n * k - m * d).sign = c at *
    have w : (qa == pa && (qb == pb && true)) = false := by simp [hb]
    have bb : (qb == pb) = false := by simp [hb]
    by_cases g : qb > pb <;> by_cases l : c ≥ 0
    · rw [dt g, dt l] at ld
      exact ⟨n, d, true, fails_mtt c1 c2 c3 c4 w bb k5 cc (dt l) (dt g), now ld⟩
    · rw [dt g, df l] at ld
      have mt := Met_ok h1 h2 (Ne.symm hb) k1 k2 k3 (by
        have e1 : m * (pb - qb) = -(m * (qb - pb)) := by rw [← Int.mul_neg]; congr 1; omega
        have e2 : (qa - pa) * k = -((pa - qa) * k) := by rw [← Int.neg_mul]; congr 1; omega
        rw [e1, e2, k4])
      exact ⟨m, k, true, fails_mft c1 c2 c3 c4 w bb k5 cc (df l) (dt g) k6, rfails_ok tw (failure_met ld (dt g) mt)⟩
    · rw [df g, dt l] at ld
      exact ⟨0, 0, false, fails_mtf c1 c2 c3 c4 w bb k5 cc (dt l) (df g), rfails_ok tw (failure_no ld (df g))⟩
    · rw [df g, df l] at ld
      exact ⟨n, d, true, fails_mff c1 c2 c3 c4 w bb k5 cc (df l) (df g), now ld⟩

theorem af_both {pi pa pb qi qa qb n d : Int} (hn : I64 n) (hd : I64 d) : ∃ a e m k s f,
    Pure Try.prog 40 #[pointV pi pa pb, pointV qi qa qb, ratioV n d] (.tuple #[.bool a, .int .i64 e]) ∧ Pure Try.prog 48 #[pointV pi pa pb, pointV qi qa qb, ratioV n d] (.tuple #[.bool a, .int .i64 e]) ∧
    Pure Try.prog 42 #[pointV pi pa pb, pointV qi qa qb, ratioV n d] (.tuple #[ratioV m k, .bool s, .int .i64 f]) ∧ Pure Try.prog 50 #[pointV pi pa pb, pointV qi qa qb, ratioV n d] (.tuple #[ratioV m k, .bool s, .int .i64 f]) := by
  obtain ⟨e1, x1⟩ := Check02_ex qi qa qb
  obtain ⟨e2, x2⟩ := Check_ex hn hd
  obtain ⟨e3, x3⟩ := checkIDs_ex pi pa pb qi qa qb
  by_cases h1 : okP pi pa pb = true
  · have c1 := Check02_ok h1
    have r1 := RCheck02_ok h1
    by_cases h2 : okP qi qa qb = true
    · have c2 := Check02_ok h2
      have r2 := RCheck02_ok h2
      by_cases h3 : okB n d = true
      · have c3 := Check_ok hn hd h3
        have r3 := RCheck_ok hn hd h3
        by_cases h4 : pi = qi
        · have tw := two_i (pa := pa) (pb := pb) (qa := qa) (qb := qb) r1 r2 r3 (by simp [h4])
          have c4 : Pure Try.prog 74 #[pointV pi pa pb, pointV qi qa qb] (.int .i64 2) := ids_e (by simp [h4])
          exact ⟨_, _, _, _, _, _, ahead_e3 c1 c2 c3 c4, rahead_bad tw (by decide), fails_e3 c1 c2 c3 c4, rfails_bad tw (by decide)⟩
        · have tw := two_ok (pa := pa) (pb := pb) (qa := qa) (qb := qb) r1 r2 r3 (by simp [h4])
          have a := Ahead_ok hn hd h1 h2 h3 h4
          have l := Leads_ok (pi := pi) (qi := qi) (n := n) (d := d) hn hd h1 h2
          obtain ⟨m, k, s, f1, f2⟩ := fails_both hn hd h1 h2 h3 h4
          cases hl : leadsB (pa * d + pb * n) (qa * d + qb * n) pb qb pi qi <;> rw [hl] at a l
          · exact ⟨_, _, _, _, _, _, a, rahead_f tw l, f1, f2⟩
          · exact ⟨_, _, _, _, _, _, a, rahead_t tw l, f1, f2⟩
      · have tw := two_t (pi := pi) (qi := qi) r1 r2 (RCheck_bad hn hd h3)
        have c3 := Check_bad hn hd h3
        exact ⟨_, _, _, _, _, _, ahead_e2 c1 c2 c3 x3, rahead_bad tw (by decide), fails_e2 c1 c2 c3 x3, rfails_bad tw (by decide)⟩
    · have tw := two_q (n := n) (d := d) r1 (RCheck02_bad h2)
      exact ⟨_, _, _, _, _, _, ahead_e1 c1 (Check02_bad h2) x2 x3, rahead_bad tw (by decide), fails_e1 c1 (Check02_bad h2) x2 x3, rfails_bad tw (by decide)⟩
  · have tw := two_p (qi := qi) (qa := qa) (qb := qb) (n := n) (d := d) (RCheck02_bad h1)
    exact ⟨_, _, _, _, _, _, ahead_e0 (Check02_bad h1) x1 x2 x3, rahead_bad tw (by decide), fails_e0 (Check02_bad h1) x1 x2 x3, rfails_bad tw (by decide)⟩

theorem meets_law {pi pa pb qi qa qb n d : Int} (_ : I64 pi) (_ : I64 pa) (_ : I64 pb) (_ : I64 qi) (_ : I64 qa) (_ : I64 qb) (hn : I64 n) (hd : I64 d) :
    Pure Try.prog 12 #[pointV pi pa pb, pointV qi qa qb, ratioV n d] (.bool true) := by
  obtain ⟨m1, k1, e2, b1, b2⟩ := meet_both pi pa pb qi qa qb
  obtain ⟨a, e1, m2, k2, s, e3, a1, a2, f1, f2⟩ := af_both (pi := pi) (pa := pa) (pb := pb) (qi := qi) (qa := qa) (qb := qb) hn hd
  cases a <;> cases s
  · exact meets_ff a1 a2 b1 b2 f1 f2 eq1 eqq eq1 eqq eq1
  · exact meets_ft a1 a2 b1 b2 f1 f2 eq1 eqq eq1 eqq eq1
  · exact meets_tf a1 a2 b1 b2 f1 f2 eq1 eqq eq1 eqq eq1
  · exact meets_tt a1 a2 b1 b2 f1 f2 eq1 eqq eq1 eqq eq1
end Go.Proofs.Ytjhkeinelbeekaa
