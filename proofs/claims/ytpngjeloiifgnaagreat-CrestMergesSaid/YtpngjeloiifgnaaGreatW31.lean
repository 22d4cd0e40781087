/-
  Joined: Rw, Rx, Ct, Cv, Fa, Fd. Conditions: none.
-/
import Derived.Test.YtpngjeloiifgnaaGreatRt
import Derived.Test.YtpngjeloiifgnaaGreatW25
import Derived.Test.YtpngjeloiifgnaaGreatCr
import Derived.Test.YtpngjeloiifgnaaGreatCp
import Derived.Test.YtpngjeloiifgnaaGreatCu
namespace Go.Proofs.YtpngjeloiifgnaaGreat
open Go.RowKit
set_option maxRecDepth 100000 in
theorem rCompare_l {a b c d x y : Int} (c1 : Pure Tryz.prog 68 #[.int .i64 a, .int .i64 d] (bigI (x))) (c2 : Pure Tryz.prog 68 #[.int .i64 c, .int .i64 b] (bigI (y))) (s1 : Pure Tryz.prog 69 #[bigI (x)] (.int .i64 x.sign)) (s2 : Pure Tryz.prog 69 #[bigI (y)] (.int .i64 y.sign)) (t1 : (x.sign != y.sign) = true) (t2 : decide (x.sign < y.sign) = true) :
    Pure Tryz.prog 29 #[ratioV a b, ratioV c d] (.int .i64 (-1)) :=
  pure_run (args := [ratioV a b, ratioV c d]) 200 [.r (bigI (x)), .r (bigI (y)), .r (.int .i64 x.sign), .r (.int .i64 y.sign), .t true, .r (.int .i64 x.sign), .r (.int .i64 y.sign), .t true]
    (And.intro rfl (And.intro c1 (And.intro c2 (And.intro s1 (And.intro s2 (And.intro t1 (And.intro s1 (And.intro s2 (And.intro t2 True.intro))))))))) (by kernel_rfl)

set_option maxRecDepth 100000 in
theorem rCompare_g {a b c d x y : Int} (c1 : Pure Tryz.prog 68 #[.int .i64 a, .int .i64 d] (bigI (x))) (c2 : Pure Tryz.prog 68 #[.int .i64 c, .int .i64 b] (bigI (y))) (s1 : Pure Tryz.prog 69 #[bigI (x)] (.int .i64 x.sign)) (s2 : Pure Tryz.prog 69 #[bigI (y)] (.int .i64 y.sign)) (t1 : (x.sign != y.sign) = true) (t2 : decide (x.sign < y.sign) = false) :
    Pure Tryz.prog 29 #[ratioV a b, ratioV c d] (.int .i64 1) :=
  pure_run (args := [ratioV a b, ratioV c d]) 200 [.r (bigI (x)), .r (bigI (y)), .r (.int .i64 x.sign), .r (.int .i64 y.sign), .t true, .r (.int .i64 x.sign), .r (.int .i64 y.sign), .t false]
    (And.intro rfl (And.intro c1 (And.intro c2 (And.intro s1 (And.intro s2 (And.intro t1 (And.intro s1 (And.intro s2 (And.intro t2 True.intro))))))))) (by kernel_rfl)

set_option maxRecDepth 100000 in
theorem rCompare_n {a b c d x y e : Int} (c1 : Pure Tryz.prog 68 #[.int .i64 a, .int .i64 d] (bigI (x))) (c2 : Pure Tryz.prog 68 #[.int .i64 c, .int .i64 b] (bigI (y))) (s1 : Pure Tryz.prog 69 #[bigI (x)] (.int .i64 x.sign)) (s2 : Pure Tryz.prog 69 #[bigI (y)] (.int .i64 y.sign)) (t1 : (x.sign != y.sign) = false) (t3 : decide (x.sign < 0) = true) (l1 : Pure Tryz.prog 70 #[bigI (y), bigI (x)] (.int .i64 e)) :
    Pure Tryz.prog 29 #[ratioV a b, ratioV c d] (.int .i64 e) :=
  pure_run (args := [ratioV a b, ratioV c d]) 200 [.r (bigI (x)), .r (bigI (y)), .r (.int .i64 x.sign), .r (.int .i64 y.sign), .t false, .r (.int .i64 x.sign), .t true, .r (.int .i64 e)]
    (And.intro rfl (And.intro c1 (And.intro c2 (And.intro s1 (And.intro s2 (And.intro t1 (And.intro s1 (And.intro t3 (And.intro l1 True.intro))))))))) (by kernel_rfl)

set_option maxRecDepth 100000 in
theorem rCompare_p {a b c d x y e : Int} (c1 : Pure Tryz.prog 68 #[.int .i64 a, .int .i64 d] (bigI (x))) (c2 : Pure Tryz.prog 68 #[.int .i64 c, .int .i64 b] (bigI (y))) (s1 : Pure Tryz.prog 69 #[bigI (x)] (.int .i64 x.sign)) (s2 : Pure Tryz.prog 69 #[bigI (y)] (.int .i64 y.sign)) (t1 : (x.sign != y.sign) = false) (t3 : decide (x.sign < 0) = false) (l1 : Pure Tryz.prog 70 #[bigI (x), bigI (y)] (.int .i64 e)) :
    Pure Tryz.prog 29 #[ratioV a b, ratioV c d] (.int .i64 e) :=
  pure_run (args := [ratioV a b, ratioV c d]) 200 [.r (bigI (x)), .r (bigI (y)), .r (.int .i64 x.sign), .r (.int .i64 y.sign), .t false, .r (.int .i64 x.sign), .t false, .r (.int .i64 e)]
    (And.intro rfl (And.intro c1 (And.intro c2 (And.intro s1 (And.intro s2 (And.intro t1 (And.intro s1 (And.intro t3 (And.intro l1 True.intro))))))))) (by kernel_rfl)

end Go.Proofs.YtpngjeloiifgnaaGreat

namespace Go.Proofs.YtpngjeloiifgnaaGreat
open Go.RowKit
theorem RCompare_any {a b c d : Int} (ha : I64 a) (hb : I64 b) (hc : I64 c) (hd : I64 d) : Pure Tryz.prog 29 #[ratioV a b, ratioV c d] (.int .i64 (a * d - c * b).sign) := by
  have c1 := RProduct_any a d ha hd
  have c2 := RProduct_any c b hc hb
  generalize a * d = x at *
  generalize c * b = y at *
  have s1 := RSign_any x
  have s2 := RSign_any y
  have kx : x < 0 ∧ x.sign = -1 ∨ x = 0 ∧ x.sign = 0 ∨ 0 < x ∧ x.sign = 1 := by
    rcases Int.lt_trichotomy x 0 with h | h | h
    · exact Or.inl ⟨h, Int.sign_eq_neg_one_of_neg h⟩
    · exact Or.inr (Or.inl ⟨h, by rw [h]; rfl⟩)
    · exact Or.inr (Or.inr ⟨h, Int.sign_eq_one_of_pos h⟩)
  have ky : y < 0 ∧ y.sign = -1 ∨ y = 0 ∧ y.sign = 0 ∨ 0 < y ∧ y.sign = 1 := by
    rcases Int.lt_trichotomy y 0 with h | h | h
    · exact Or.inl ⟨h, Int.sign_eq_neg_one_of_neg h⟩
    · exact Or.inr (Or.inl ⟨h, by rw [h]; rfl⟩)
    · exact Or.inr (Or.inr ⟨h, Int.sign_eq_one_of_pos h⟩)
  have kd : x - y < 0 ∧ (x - y).sign = -1 ∨ x - y = 0 ∧ (x - y).sign = 0 ∨ 0 < x - y ∧ (x - y).sign = 1 := by
    rcases Int.lt_trichotomy (x - y) 0 with h | h | h
    · exact Or.inl ⟨h, Int.sign_eq_neg_one_of_neg h⟩
    · exact Or.inr (Or.inl ⟨h, by rw [h]; rfl⟩)
    · exact Or.inr (Or.inr ⟨h, Int.sign_eq_one_of_pos h⟩)
  by_cases he : x.sign = y.sign
  · by_cases hn : x.sign < 0
    · have l := RLess_any (decide (y < 0)) (decide (x < 0)) y.natAbs x.natAbs
      rw [show (x - y).sign = cmpN y.natAbs x.natAbs by unfold cmpN; split <;> (try split) <;> omega]
      exact rCompare_n c1 c2 s1 s2 (by simp [he]) (decide_t hn) l
    · have l := RLess_any (decide (x < 0)) (decide (y < 0)) x.natAbs y.natAbs
      rw [show (x - y).sign = cmpN x.natAbs y.natAbs by unfold cmpN; split <;> (try split) <;> omega]
      exact rCompare_p c1 c2 s1 s2 (by simp [he]) (decide_f hn) l
  · by_cases hl : x.sign < y.sign
    · rw [show (x - y).sign = -1 by omega]
      exact rCompare_l c1 c2 s1 s2 (by simpa using he) (decide_t hl)
    · rw [show (x - y).sign = 1 by omega]
      exact rCompare_g c1 c2 s1 s2 (by simpa using he) (decide_f hl)

theorem Rcommon_any (a b g : Nat) (ha : a < 18446744073709551616) (hb : b < 18446744073709551616) (hg : g = Nat.gcd a b) : Pure Tryz.prog 42 #[.int .u64 a, .int .u64 b] (.int .u64 (g : Int)) :=
  fun w => hg ▸ common_gr a b w ha hb
theorem quoU {x y : Nat} (h : x < 18446744073709551616) : Value.int .u64 (IntKind.u64.wrap ((x : Int).tdiv (y : Int))) = .int .u64 ((x / y : Nat) : Int) := wrapv (tdivN x y) (Int.natCast_nonneg _) (by have := Nat.div_le_self x y; omega)
theorem selI_sg {f : Bool} {U : Nat} (h : f = true → U < 9223372036854775808) : selI f (sgV U false) = selI f (U : Int) := by
  cases f
  · rfl
  · show sgV U false = (U : Int)
    unfold sgV
    rw [if_pos (h rfl)]
    rfl

end Go.Proofs.YtpngjeloiifgnaaGreat

namespace Go.Proofs.YtpngjeloiifgnaaGreat
open Go.RowKit
theorem sign_ge (X : Int) : (X.sign ≥ 0) ↔ 0 ≤ X := by
  rcases Int.lt_trichotomy X 0 with h | h | h
  · rw [Int.sign_eq_neg_one_of_neg h]; omega
  · rw [h]; decide
  · rw [Int.sign_eq_one_of_pos h]; omega
/-- From the meeting on the faster one is ahead, before it the other one. -/
theorem leads_meet {pi pa pb qi qa qb n d m k : Int} (k0 : 0 < k) (h4 : m * (pb - qb) = (qa - pa) * k) (hb : pb ≠ qb) :
    leadsB (pa * d + pb * n) (qa * d + qb * n) pb qb pi qi = (decide (pb > qb) == decide ((n * k - m * d).sign ≥ 0)) := by
  have key : (pa * d + pb * n - (qa * d + qb * n)) * k = (pb - qb) * (n * k - m * d) := by
    have e1 : (pb - qb) * (m * d) = (qa - pa) * k * d := by rw [← h4, ← Int.mul_assoc, Int.mul_comm (pb - qb) m]
    rw [Int.mul_sub, e1, Int.sub_mul, Int.add_mul, Int.add_mul, Int.sub_mul, Int.sub_mul, Int.sub_mul, ← Int.mul_assoc, ← Int.mul_assoc, Int.mul_right_comm qa k d, Int.mul_right_comm pa k d]
    omega
  have hs := sign_ge (n * k - m * d)
  generalize n * k - m * d = X at *
  generalize pa * d + pb * n = P at *
  generalize qa * d + qb * n = Q at *
  have hk : ((P - Q) * k < 0 ↔ P - Q < 0) ∧ (0 < (P - Q) * k ↔ 0 < P - Q) := by
    rcases Int.lt_trichotomy (P - Q) 0 with h | h | h
    · have := Int.mul_neg_of_neg_of_pos h k0; omega
    · rw [h]; simp
    · have := Int.mul_pos h k0; omega
  have hx : ((pb - qb) * X < 0 ↔ (pb > qb ∧ X < 0 ∨ pb < qb ∧ 0 < X)) ∧ (0 < (pb - qb) * X ↔ (pb > qb ∧ 0 < X ∨ pb < qb ∧ X < 0)) := by
    rcases Int.lt_trichotomy X 0 with h | h | h
    · rcases Int.lt_or_gt_of_ne hb with g | g
      · have := Int.mul_pos_of_neg_of_neg (show pb - qb < 0 by omega) h; omega
      · have := Int.mul_neg_of_pos_of_neg (show 0 < pb - qb by omega) h; omega
    · rw [h]; simp
    · rcases Int.lt_or_gt_of_ne hb with g | g
      · have := Int.mul_neg_of_neg_of_pos (show pb - qb < 0 by omega) h; omega
      · have := Int.mul_pos (show 0 < pb - qb by omega) h; omega
  rw [key] at hk
  by_cases g : pb > qb
  · by_cases l : 0 ≤ X
    · rw [dt g, dt (hs.2 l)]; exact leads_t (by omega)
    · rw [dt g, df (fun h => l (hs.1 h))]; exact leads_f (by omega)
  · by_cases l : 0 ≤ X
    · rw [df g, dt (hs.2 l)]; exact leads_f (by omega)
    · rw [df g, df (fun h => l (hs.1 h))]; exact leads_t (by omega)
/-- With the same B the time is of no account. -/
theorem leads_same {pi pa b qi qa n d : Int} (d0 : 0 < d) : leadsB (pa * d + b * n) (qa * d + b * n) b b pi qi = leadsB pa qa b b pi qi := by
  have e : pa * d - qa * d = (pa - qa) * d := (Int.sub_mul _ _ _).symm
  have hk : ((pa - qa) * d < 0 ↔ pa - qa < 0) ∧ (0 < (pa - qa) * d ↔ 0 < pa - qa) := by
    rcases Int.lt_trichotomy (pa - qa) 0 with h | h | h
    · have := Int.mul_neg_of_neg_of_pos h d0; omega
    · rw [h]; simp
    · have := Int.mul_pos h d0; omega
  unfold leadsB
  rw [← e] at hk
  exact decide_eq_decide.2 (by omega)
theorem checkIDs_n {pi pa pb qi qa qb : Int} (h : pi ≠ qi) : Pure Tryz.prog 136 #[pointV pi pa pb, pointV qi qa qb] (.int .i64 0) := ids_n (by simp [h])
/-- Both orders of two points have one meeting. -/
theorem meeting_both {pi pa pb qi qa qb : Int} (hp : okP pi pa pb = true) (hq : okP qi qa qb = true) (hb : pb ≠ qb) :
    ∃ m k, okB m k = true ∧ I64 m ∧ I64 k ∧ m * (pb - qb) = (qa - pa) * k ∧ Pure Tryz.prog 147 #[pointV pi pa pb, pointV qi qa qb] (ratioV m k) ∧ Pure Tryz.prog 147 #[pointV qi qa qb, pointV pi pa pb] (ratioV m k) := by
  obtain ⟨m, k, h1, h2, h3, h4, h5⟩ := meeting_ok hp hq hb
  obtain ⟨m', k', g1, g2, g3, g4, g5⟩ := meeting_ok hq hp (Ne.symm hb)
  have e : m * k' = m' * k := by
    refine Int.eq_of_mul_eq_mul_right (show pb - qb ≠ 0 by omega) ?_
    have a1 : m * k' * (pb - qb) = (qa - pa) * k * k' := by rw [Int.mul_right_comm, h4]
    have a2 : m' * k * (pb - qb) = -((pa - qa) * k' * k) := by
      rw [Int.mul_right_comm, ← Int.neg_mul, ← g4, ← Int.mul_neg]; congr 2; omega
    rw [a1, a2, ← Int.neg_mul, ← Int.neg_mul, Int.mul_right_comm (qa - pa) k k']
    congr 2; omega
  obtain ⟨rfl, rfl⟩ := okB_one h1 g1 e
  exact ⟨m, k, h1, h2, h3, h4, h5, g5⟩
end Go.Proofs.YtpngjeloiifgnaaGreat

namespace Go.Proofs.YtpngjeloiifgnaaGreat
open Go.RowKit
theorem bigN_low {x : Nat} (h : x < 18446744073709551616) : bigN false x = bigV false 0 (x : Int) := by
  unfold bigN
  rw [show x / 18446744073709551616 = 0 by omega, show x % 18446744073709551616 = x by omega]
  rfl
theorem RMake_res {a b : Int} (ha : I64 a) (hb : I64 b) (h0 : b ≠ 0) : ∃ N D E, IsRes a b N D E ∧ Pure Tryz.prog 149 #[.int .i64 a, .int .i64 b] (.tuple #[ratioV N D, .int .i64 E]) := by
  have za := Rsize_any a ha
  have zb := Rsize_any b hb
  unfold I64 at ha hb
  obtain ⟨g, hg⟩ : ∃ g, g = Nat.gcd a.natAbs b.natAbs := ⟨_, rfl⟩
  have g0 : 0 < g := hg ▸ Nat.gcd_pos_of_pos_right _ (by omega)
  have gg := Rcommon_any a.natAbs b.natAbs g (by omega) (by omega) hg
  obtain ⟨x, hx⟩ : ∃ x, x = a.natAbs / g := ⟨_, rfl⟩
  obtain ⟨y, hy⟩ : ∃ y, y = b.natAbs / g := ⟨_, rfl⟩
  have ax : a.natAbs = g * x := by rw [hx, hg]; exact (Nat.mul_div_cancel' (Nat.gcd_dvd_left _ _)).symm
  have bY : b.natAbs = g * y := by rw [hy, hg]; exact (Nat.mul_div_cancel' (Nat.gcd_dvd_right _ _)).symm
  have hxy : Nat.gcd x y = 1 := by rw [hx, hy, hg]; exact Nat.gcd_div_gcd_div_gcd_of_pos_right (by omega)
  have y0 : 0 < y := by
    rcases Nat.eq_zero_or_pos y with e | e
    · rw [e, Nat.mul_zero] at bY; omega
    · exact e
  have lx := Nat.div_le_self a.natAbs g
  have ly := Nat.div_le_self b.natAbs g
  rw [← hx] at lx
  rw [← hy] at ly
  have q1 := quoU (x := a.natAbs) (y := g) (by omega)
  have q2 := quoU (x := b.natAbs) (y := g) (by omega)
  rw [← hx] at q1
  rw [← hy] at q2
  have md : ∀ neg, Pure Tryz.prog 182 #[.bool neg, bigV false 0 (x : Int), bigV false 0 (y : Int)] (.tuple #[ratioV (selI (fitB x && fitB y) (sgV x neg)) (selI (fitB x && fitB y) (y : Int)), .int .i64 (selE (fitB x && fitB y))]) := by
    intro neg
    have := RMade_any neg false false x y
    rwa [bigN_low (by omega), bigN_low (by omega)] at this
  have fin : ∀ (T : Int) (neg : Bool), T.natAbs = x → decide (T < 0) = neg → T * b = a * (y : Int) → IsRes a b (selI (fitB x && fitB y) (sgV x neg)) (selI (fitB x && fitB y) (y : Int)) (selE (fitB x && fitB y)) := by
    intro T neg h1 h2 h3
    have := isRes_of (p := a) (q := b) (T := T) (U := (y : Int)) h0 (by omega) (by rw [h1, Int.natAbs_natCast]; exact hxy) h3
    rw [h1, h2, Int.natAbs_natCast, df (show ¬ (y : Int) < 0 by omega), selI_sg (fun h => by simp only [Bool.and_eq_true] at h; simpa [fitB] using h.2)] at this
    exact this
  have gz : ¬ (g : Int) = 0 := by omega
  have cx : (x : Int) * ((g * y : Nat) : Int) = ((g * x : Nat) : Int) * (y : Int) := by rw [← Int.natCast_mul, ← Int.natCast_mul]; congr 1; rw [Nat.mul_left_comm, Nat.mul_assoc]
  by_cases sa : a < 0 <;> by_cases sb : b < 0
  · refine ⟨_, _, _, fin (x : Int) false (by simp) (df (by omega)) ?_, rMake_ttx (by simp [h0]) za zb gg (dt sa) (dt sb) gz q1 q2 (md false)⟩
    rw [show b = -((g * y : Nat) : Int) by omega, show a = -((g * x : Nat) : Int) by omega, Int.mul_neg, Int.neg_mul, cx]
  · refine ⟨_, _, _, fin (-(x : Int)) true (by simp) (dt ?_) ?_, rMake_tft (by simp [h0]) za zb gg (dt sa) (df sb) (by simp; omega) gz q1 q2 (md true)⟩
    · rcases Nat.eq_zero_or_pos x with e | e
      · rw [e, Nat.mul_zero] at ax; omega
      · omega
    · rw [show b = ((g * y : Nat) : Int) by omega, show a = -((g * x : Nat) : Int) by omega, Int.neg_mul, Int.neg_mul, cx]
  · by_cases z : a = 0
    · refine ⟨_, _, _, fin 0 false ?_ rfl (by rw [z]; simp), rMake_ftf (by simp [h0]) za zb gg (df sa) (dt sb) (by simp [z]) gz q1 q2 (md false)⟩
      rw [hx, z]; simp
    · refine ⟨_, _, _, fin (-(x : Int)) true (by simp) (dt ?_) ?_, rMake_ftt (by simp [h0]) za zb gg (df sa) (dt sb) (by simp [z]) gz q1 q2 (md true)⟩
      · rcases Nat.eq_zero_or_pos x with e | e
        · rw [e, Nat.mul_zero] at ax; omega
        · omega
      · rw [show b = -((g * y : Nat) : Int) by omega, show a = ((g * x : Nat) : Int) by omega, Int.neg_mul_neg, cx]
  · refine ⟨_, _, _, fin (x : Int) false (by simp) (df (by omega)) ?_, rMake_ffx (by simp [h0]) za zb gg (df sa) (df sb) gz q1 q2 (md false)⟩
    rw [show b = ((g * y : Nat) : Int) by omega, show a = ((g * x : Nat) : Int) by omega, cx]

theorem Met_ok {pi pa pb qi qa qb m k : Int} (hp : okP pi pa pb = true) (hq : okP qi qa qb = true) (hb : pb ≠ qb) (h1 : okB m k = true) (h2 : I64 m) (h3 : I64 k) (h4 : m * (pb - qb) = (qa - pa) * k) :
    Pure Tryz.prog 111 #[pointV pi pa pb, pointV qi qa qb] (ratioV m k) := by
  have hp' := okP_iff.1 hp
  have hq' := okP_iff.1 hq
  obtain ⟨N, D, E, hr, hm⟩ := RMake_res (a := pa - qa) (b := qb - pb) (by unfold I64; omega) (by unfold I64; omega) (by omega)
  obtain ⟨rfl, rfl, rfl⟩ := hr.one (by omega) h1 h2 h3 (by
    rw [show qb - pb = -(pb - qb) by omega, show pa - qa = -(qa - pa) by omega, Int.mul_neg, Int.neg_mul, h4])
  exact met_path (by rw [wrap_i64_in (by omega) (by omega)]) (by rw [wrap_i64_in (by omega) (by omega)]) hm

theorem Leads_ok {pi pa pb qi qa qb n d : Int} (hn : I64 n) (hd : I64 d) (hp : okP pi pa pb = true) (hq : okP qi qa qb = true) :
    Pure Tryz.prog 65 #[pointV pi pa pb, pointV qi qa qb, ratioV n d] (.bool (leadsB (pa * d + pb * n) (qa * d + qb * n) pb qb pi qi)) := by
  have hp' := okP_iff.1 hp
  have hq' := okP_iff.1 hq
  have c1 := RProduct_any (pa - qa) d (by unfold I64; omega) hd
  have c2 := RProduct_any (pb - qb) n (by unfold I64; omega) hn
  have b1 : ((pa - qa) * d).natAbs ≤ 2097152 * 9223372036854775808 := by rw [Int.natAbs_mul]; unfold I64 at hd; exact Nat.mul_le_mul (by omega) (by omega)
  have b2 : ((pb - qb) * n).natAbs ≤ 2097152 * 9223372036854775808 := by rw [Int.natAbs_mul]; unfold I64 at hn; exact Nat.mul_le_mul (by omega) (by omega)
  have c3 := RPlus_any ((pa - qa) * d) ((pb - qb) * n) (by omega) (by omega)
  have e : (pa - qa) * d + (pb - qb) * n = pa * d + pb * n - (qa * d + qb * n) := by rw [Int.sub_mul, Int.sub_mul]; omega
  rw [e] at c3
  have c4 := RSign_any (pa * d + pb * n - (qa * d + qb * n))
  have far := far_path (pi := pi) (pa := pa) (pb := pb) (qi := qi) (qa := qa) (qb := qb) (by rw [wrap_i64_in (by omega) (by omega)]) c1 (by rw [wrap_i64_in (by omega) (by omega)]) c2 c3 c4
  generalize pa * d + pb * n = P at *
  generalize qa * d + qb * n = Q at *
  rcases Int.lt_trichotomy (P - Q) 0 with h | h | h
  · rw [Int.sign_eq_neg_one_of_neg h] at far
    rw [leads_f (by omega)]
    exact leads_far_f far (by decide) (by decide)
  · rw [h] at far
    by_cases hb : pb = qb
    · by_cases hi : pi < qi
      · rw [leads_t (by omega)]; exact leads_i_t far (by decide) (by simp [hb]) (dt hi)
      · rw [leads_f (by omega)]; exact leads_i_f far (by decide) (by simp [hb]) (df hi)
    · by_cases hg : pb > qb
      · rw [leads_t (by omega)]; exact leads_b_t far (by decide) (by simp [hb]) (dt hg)
      · rw [leads_f (by omega)]; exact leads_b_f far (by decide) (by simp [hb]) (df hg)
  · rw [Int.sign_eq_one_of_pos h] at far
    rw [leads_t (by omega)]
    exact leads_far_t far (by decide) (by decide)

end Go.Proofs.YtpngjeloiifgnaaGreat

namespace Go.Proofs.YtpngjeloiifgnaaGreat
open Go.RowKit
structure Pt where
  id : Int
  a : Int
  b : Int
abbrev ptV (p : Pt) : Value := pointV p.id p.a p.b
def ptsV : List Pt → List Value
  | [] => []
  | p :: r => .int .i64 p.id :: .int .i64 p.a :: .int .i64 p.b :: ptsV r
theorem ptsV_length : ∀ (l : List Pt), (ptsV l).length = l.length * 3
  | [] => rfl
  | p :: r => by simp [ptsV, ptsV_length r]; omega
theorem ptsV_get : ∀ {l : List Pt} {k : Nat} {p : Pt}, l[k]? = some p → (ptsV l)[k * 3]? = some (.int .i64 p.id) ∧ (ptsV l)[k * 3 + 1]? = some (.int .i64 p.a) ∧ (ptsV l)[k * 3 + 2]? = some (.int .i64 p.b)
  | [], k, p, h => by simp at h
  | q :: r, 0, p, h => by simp at h; subst h; exact ⟨rfl, rfl, rfl⟩
  | q :: r, k + 1, p, h => by
    have := ptsV_get (l := r) (k := k) (p := p) (by simpa using h)
    rw [show (k + 1) * 3 = k * 3 + 1 + 1 + 1 by omega]
    exact this
theorem ra_pt {l : List Pt} {k : Nat} {p : Pt} (h : l[k]? = some p) : rowAt (ptsV l) (0 * 3 + k * 3) [.int .i64 p.id, .int .i64 p.a, .int .i64 p.b] := by
  obtain ⟨h1, h2, h3⟩ := ptsV_get h
  intro j v hj
  rw [show 0 * 3 + k * 3 + j = k * 3 + j by omega]
  match j, hj with
  | 0, hj => cases hj; exact h1
  | 1, hj => cases hj; exact h2
  | 2, hj => cases hj; exact h3
  | j + 3, hj => simp at hj
theorem ra_id {l : List Pt} {k : Nat} {p : Pt} (h : l[k]? = some p) : rowAt (ptsV l) (0 * 3 + k * 3) [.int .i64 p.id] := by
  intro j v hj
  rw [show 0 * 3 + k * 3 + j = k * 3 + j by omega]
  match j, hj with
  | 0, hj => cases hj; exact (ptsV_get h).1
  | j + 1, hj => simp at hj

/-- Rounds, one after another. -/
theorem RunsL.rounds {P : Program} {lo fr : Nat} {c : Code} {n nb : Nat} (tm : Nat → List (Nat × SV)) (hp : Nat → List (Nat × Nat × SV)) {e : Exit} {tm2 : List (Nat × SV)} {hp2 : List (Nat × Nat × SV)} {N : Nat} :
    ∀ (d i : Nat), i + d = N → (∀ j, i ≤ j → j < N → RunsL P lo fr c n nb (tm (j + 1)) (hp (j + 1)) e tm2 hp2 → RunsL P lo fr c n nb (tm j) (hp j) e tm2 hp2) → RunsL P lo fr c n nb (tm N) (hp N) e tm2 hp2 → RunsL P lo fr c n nb (tm i) (hp i) e tm2 hp2
  | 0, i, h, _, last => by have : i = N := by omega
                           subst this; exact last
  | d + 1, i, h, step, last => step i (Nat.le_refl i) (by omega) (RunsL.rounds tm hp d (i + 1) (by omega) (fun j h1 h2 => step j (by omega) h2) last)

abbrev rowP (l : List Pt) : SV := .row 68 3 l.length (ptsV l)
abbrev fldS (b : Nat) (l : List Pt) : SV := .ag [.ls b l.length]
theorem i64_succ {k : Nat} (h : k ≤ 1000000) : Value.int .i64 (IntKind.i64.wrap ((k : Int) + 1)) = .int .i64 ((k + 1 : Nat) : Int) := by rw [wrap_i64_in (by omega) (by omega)]; rfl

set_option maxRecDepth 100000 in
theorem great_t {l : List Pt} (h1 : decide ((l.length : Int) > 16) = true) (h2 : decide ((l.length : Int) < 64) = true) : FnL Tryz.prog 5 1 [fldS 0 l] [(0, 0, rowP l)] (.pv (.bool true)) 0 [] :=
  fnl_run 200 [] [.t true, .t true] True.intro (And.intro h1 (And.intro h2 True.intro)) (by kernel_rfl)
set_option maxRecDepth 100000 in
theorem great_f {l : List Pt} (h1 : decide ((l.length : Int) > 16) = false) (h2 : decide ((l.length : Int) > 70) = false) : FnL Tryz.prog 5 1 [fldS 0 l] [(0, 0, rowP l)] (.pv (.bool false)) 0 [] :=
  fnl_run 200 [] [.t false, .t false] True.intro (And.intro h1 (And.intro h2 True.intro)) (by kernel_rfl)
set_option maxRecDepth 100000 in
theorem great_t2 {l : List Pt} (h1 : decide ((l.length : Int) > 16) = true) (h2 : decide ((l.length : Int) < 64) = false) (h3 : decide ((l.length : Int) > 70) = true) : FnL Tryz.prog 5 1 [fldS 0 l] [(0, 0, rowP l)] (.pv (.bool true)) 0 [] :=
  fnl_run 200 [] [.t true, .t false, .t true] True.intro (And.intro h1 (And.intro h2 (And.intro h3 True.intro))) (by kernel_rfl)
set_option maxRecDepth 100000 in
theorem great_f2 {l : List Pt} (h1 : decide ((l.length : Int) > 16) = true) (h2 : decide ((l.length : Int) < 64) = false) (h3 : decide ((l.length : Int) > 70) = false) : FnL Tryz.prog 5 1 [fldS 0 l] [(0, 0, rowP l)] (.pv (.bool false)) 0 [] :=
  fnl_run 200 [] [.t true, .t false, .t false] True.intro (And.intro h1 (And.intro h2 (And.intro h3 True.intro))) (by kernel_rfl)

end Go.Proofs.YtpngjeloiifgnaaGreat

namespace Go.Proofs.YtpngjeloiifgnaaGreat
open Go.RowKit
set_option maxRecDepth 100000 in
theorem at_next {l : List Pt} {k : Nat} {p : Pt} {id : Int} (hk : l[k]? = some p) (hin : 0 ≤ (k : Int) ∧ (k : Int) < (l.length : Int)) (hlt : decide ((k : Int) < (l.length : Int)) = true) (he : (p.id == id) = false) (hs : Value.int .i64 (IntKind.i64.wrap ((k : Int) + 1)) = .int .i64 (((k + 1 : Nat) : Int))) {e : Exit} {tm2 : List (Nat × SV)} {hp2 : List (Nat × Nat × SV)}
    (r : RunsL Tryz.prog 1 1 (loopOf Tryz.prog 63 0) 22 2 ([(1, .pv (.int .i64 id)), (2, .pp 1 0), (5, .pv (.int .i64 ((k + 1 : Nat) : Int)))]) ([(1, 0, .ls 0 l.length), (0, 0, rowP l)]) e tm2 hp2) : RunsL Tryz.prog 1 1 (loopOf Tryz.prog 63 0) 22 2 ([(1, .pv (.int .i64 id)), (2, .pp 1 0), (5, .pv (.int .i64 (k : Int)))]) ([(1, 0, .ls 0 l.length), (0, 0, rowP l)]) e tm2 hp2 :=
  RunsL.next [] 300 [.t true, .r (Value.int .i64 p.id), .t false, .r (.int .i64 (((k + 1 : Nat) : Int)))]
    (round_of (And.intro hlt (And.intro hin (And.intro (ra_id hk) (And.intro he (And.intro hs True.intro))))) (by kernel_rfl)) r

set_option maxRecDepth 100000 in
theorem at_hit {l : List Pt} {k : Nat} {p : Pt} {id : Int} (hk : l[k]? = some p) (hin : 0 ≤ (k : Int) ∧ (k : Int) < (l.length : Int)) (hlt : decide ((k : Int) < (l.length : Int)) = true) (he : (p.id == id) = true) : RunsL Tryz.prog 1 1 (loopOf Tryz.prog 63 0) 22 2 ([(1, .pv (.int .i64 id)), (2, .pp 1 0), (5, .pv (.int .i64 (k : Int)))]) ([(1, 0, .ls 0 l.length), (0, 0, rowP l)]) (.ret) ([(4, .pv (.int .i64 (k : Int)))]) ([]) :=
  RunsL.stop [] 300 [.t true, .r (Value.int .i64 p.id), .t true] (fun h => by cases h)
    (round_of (And.intro hlt (And.intro hin (And.intro (ra_id hk) (And.intro he True.intro)))) (by kernel_rfl))

set_option maxRecDepth 100000 in
theorem at_end {l : List Pt} {k : Nat} {id : Int} (hge : decide ((k : Int) < (l.length : Int)) = false) : RunsL Tryz.prog 1 1 (loopOf Tryz.prog 63 0) 22 2 ([(1, .pv (.int .i64 id)), (2, .pp 1 0), (5, .pv (.int .i64 (k : Int)))]) ([(1, 0, .ls 0 l.length), (0, 0, rowP l)]) (.exit 0) ([]) ([]) :=
  RunsL.stop [] 300 [.t false] (fun h => by cases h)
    (round_of (And.intro hge True.intro) (by kernel_rfl))

set_option maxRecDepth 100000 in
theorem at_no {l : List Pt} {id : Int} (r0 : RunsL Tryz.prog 1 1 (loopOf Tryz.prog 63 0) 22 2 ([(1, .pv (.int .i64 id)), (2, .pp 1 0), (5, .pv (.int .i64 ((0 : Nat) : Int)))]) ([(1, 0, .ls 0 l.length), (0, 0, rowP l)]) (.exit 0) ([]) ([])) :
    FnL Tryz.prog 63 1 [fldS 0 l, .pv (.int .i64 (id))] [(0, 0, rowP l)] (.pv (.int .i64 (-1))) 0 [] :=
  fnl_run 300 [] [.l (.exit 0) ([(1, .pv (.int .i64 id)), (2, .pp 1 0), (5, .pv (.int .i64 ((0 : Nat) : Int)))]) ([(1, 0, .ls 0 l.length), (0, 0, rowP l)]) ([]) ([])]
     True.intro (And.intro (reflT (renN []) ([(1, .pv (.int .i64 id)), (2, .pp 1 0), (5, .pv (.int .i64 ((0 : Nat) : Int)))])) (And.intro (reflH (renN []) ([(1, 0, .ls 0 l.length), (0, 0, rowP l)])) (And.intro r0 True.intro))) (by kernel_rfl)

set_option maxRecDepth 100000 in
theorem at_yes {l : List Pt} {k : Nat} {id : Int} (r0 : RunsL Tryz.prog 1 1 (loopOf Tryz.prog 63 0) 22 2 ([(1, .pv (.int .i64 id)), (2, .pp 1 0), (5, .pv (.int .i64 ((0 : Nat) : Int)))]) ([(1, 0, .ls 0 l.length), (0, 0, rowP l)]) (.ret) ([(4, .pv (.int .i64 (k : Int)))]) ([])) :
    FnL Tryz.prog 63 1 [fldS 0 l, .pv (.int .i64 (id))] [(0, 0, rowP l)] (.pv (.int .i64 ((k : Int)))) 0 [] :=
  fnl_run 300 [] [.l (.ret) ([(1, .pv (.int .i64 id)), (2, .pp 1 0), (5, .pv (.int .i64 ((0 : Nat) : Int)))]) ([(1, 0, .ls 0 l.length), (0, 0, rowP l)]) ([(4, .pv (.int .i64 (k : Int)))]) ([])]
     True.intro (And.intro (reflT (renN []) ([(1, .pv (.int .i64 id)), (2, .pp 1 0), (5, .pv (.int .i64 ((0 : Nat) : Int)))])) (And.intro (reflH (renN []) ([(1, 0, .ls 0 l.length), (0, 0, rowP l)])) (And.intro r0 True.intro))) (by kernel_rfl)

end Go.Proofs.YtpngjeloiifgnaaGreat
