/-
  CourseChanges: who is ahead changes at a meeting only. Conditions: none.
-/
import Derived.Test.YtjhkeinelbeekaaCr
import Derived.Test.YtjhkeinelbeekaaCs
import Derived.Test.YtjhkeinelbeekaaRx
namespace Go.Proofs.Ytjhkeinelbeekaa
open Go.RowKit

theorem sign_ge (X : Int) : (X.sign ≥ 0) ↔ 0 ≤ X := by
  rcases Int.lt_trichotomy X 0 with h | h | h
  · rw [Int.sign_eq_neg_one_of_neg h]; omega
  · rw [h]; decide
  · rw [Int.sign_eq_one_of_pos h]; omega
/-- From the meeting on the faster one is ahead, before it the other one. -/
theorem leads_meet {pi pa pb qi qa qb n d m k : Int} (k0 : 0 < k) (h4 : m * (pb - qb) = (qa - pa) * k) (hb : pb ≠ qb) :
    leadsB (pa * d + pb * n) (qa * d + qb * n) pb qb pi qi = (decide (pb > qb) == decide ((n * k - m * d).sign ≥ 0)) := by
  have key : (pa * d + pb * n - (qa * d + qb * n)) * k = (pb - qb) * (n * k - m * d) := by
    have e1 : (pb - qb) * (m * d) = (qa - pa) * k * d := by rw [← h4, ← Int.mul_assoc, Int.mul_comm (pb - qb) m]
    rw [Int.mul_sub, e1, Int.sub_mul, Int.add_mul, Int.add_mul, Int.sub_mul, Int.sub_mul, Int.sub_mul, ← Int.mul_assoc, ← Int.mul_assoc, Int.mul_right_comm qa k d, Int.mul_right_comm pa k d]
    omega
  have hs := sign_ge (n * k - m * d)
  generalize n * k - m * d = X at *
  generalize pa * d + pb * n = P at *
  generalize qa * d + qb * n = Q at *
  have hk : ((P - Q) * k < 0 ↔ P - Q < 0) ∧ (0 < (P - Q) * k ↔ 0 < P - Q) := by
    rcases Int.lt_trichotomy (P - Q) 0 with h | h | h
    · have := Int.mul_neg_of_neg_of_pos h k0; omega
    · rw [h]; simp
    · have := Int.mul_pos h k0; omega
  have hx : ((pb - qb) * X < 0 ↔ (pb > qb ∧ X < 0 ∨ pb < qb ∧ 0 < X)) ∧ (0 < (pb - qb) * X ↔ (pb > qb ∧ 0 < X ∨ pb < qb ∧ X < 0)) := by
    rcases Int.lt_trichotomy X 0 with h | h | h
    · rcases Int.lt_or_gt_of_ne hb with g | g
      · have := Int.mul_pos_of_neg_of_neg (show pb - qb < 0 by omega) h; omega
      · have := Int.mul_neg_of_pos_of_neg (show 0 < pb - qb by omega) h; omega
    · rw [h]; simp
    · rcases Int.lt_or_gt_of_ne hb with g | g
      · have := Int.mul_neg_of_neg_of_pos (show pb - qb < 0 by omega) h; omega
      · have := Int.mul_pos (show 0 < pb - qb by omega) h; omega
  rw [key] at hk
  by_cases g : pb > qb
  · by_cases l : 0 ≤ X
    · rw [dt g, dt (hs.2 l)]; exact leads_t (by omega)
    · rw [dt g, df (fun h => l (hs.1 h))]; exact leads_f (by omega)
  · by_cases l : 0 ≤ X
    · rw [df g, dt (hs.2 l)]; exact leads_f (by omega)
    · rw [df g, df (fun h => l (hs.1 h))]; exact leads_t (by omega)
/-- With the same B the time is of no account. -/
theorem leads_same {pi pa b qi qa n d : Int} (d0 : 0 < d) : leadsB (pa * d + b * n) (qa * d + b * n) b b pi qi = leadsB pa qa b b pi qi := by
  have e : pa * d - qa * d = (pa - qa) * d := (Int.sub_mul _ _ _).symm
  have hk : ((pa - qa) * d < 0 ↔ pa - qa < 0) ∧ (0 < (pa - qa) * d ↔ 0 < pa - qa) := by
    rcases Int.lt_trichotomy (pa - qa) 0 with h | h | h
    · have := Int.mul_neg_of_neg_of_pos h d0; omega
    · rw [h]; simp
    · have := Int.mul_pos h d0; omega
  unfold leadsB
  rw [← e] at hk
  exact decide_eq_decide.2 (by omega)
theorem checkIDs_n {pi pa pb qi qa qb : Int} (h : pi ≠ qi) : Pure Try.prog 74 #[pointV pi pa pb, pointV qi qa qb] (.int .i64 0) := ids_n (by simp [h])
theorem Meet_same {pi pa qi qa b : Int} (hp : okP pi pa b = true) (hq : okP qi qa b = true) (h : pi ≠ qi) : Pure Try.prog 41 #[pointV pi pa b, pointV qi qa b] (.tuple #[ratioV 0 0, .int .i64 6]) :=
  meet_same (Check02_ok hp) (Check02_ok hq) (checkIDs_n h) (by simp)
theorem Meet_diff {pi pa pb qi qa qb m k : Int} (hp : okP pi pa pb = true) (hq : okP qi qa qb = true) (h : pi ≠ qi) (hb : pb ≠ qb) (hm : Pure Try.prog 76 #[pointV pi pa pb, pointV qi qa qb] (ratioV m k)) :
    Pure Try.prog 41 #[pointV pi pa pb, pointV qi qa qb] (.tuple #[ratioV m k, .int .i64 0]) :=
  meet_diff (Check02_ok hp) (Check02_ok hq) (checkIDs_n h) (by simp [hb]) hm
/-- Both orders of two points have one meeting. -/
theorem meeting_both {pi pa pb qi qa qb : Int} (hp : okP pi pa pb = true) (hq : okP qi qa qb = true) (hb : pb ≠ qb) :
    ∃ m k, okB m k = true ∧ I64 m ∧ I64 k ∧ m * (pb - qb) = (qa - pa) * k ∧ Pure Try.prog 76 #[pointV pi pa pb, pointV qi qa qb] (ratioV m k) ∧ Pure Try.prog 76 #[pointV qi qa qb, pointV pi pa pb] (ratioV m k) := by
  obtain ⟨m, k, h1, h2, h3, h4, h5⟩ := meeting_ok hp hq hb
  obtain ⟨m', k', g1, g2, g3, g4, g5⟩ := meeting_ok hq hp (Ne.symm hb)
  have e : m * k' = m' * k := by
    refine Int.eq_of_mul_eq_mul_right (show pb - qb ≠ 0 by omega) ?_
    have a1 : m * k' * (pb - qb) = (qa - pa) * k * k' := by rw [Int.mul_right_comm, h4]
    have a2 : m' * k * (pb - qb) = -((pa - qa) * k' * k) := by
      rw [Int.mul_right_comm, ← Int.neg_mul, ← g4, ← Int.mul_neg]; congr 2; omega
    rw [a1, a2, ← Int.neg_mul, ← Int.neg_mul, Int.mul_right_comm (qa - pa) k k']
    congr 2; omega
  obtain ⟨rfl, rfl⟩ := okB_one h1 g1 e
  exact ⟨m, k, h1, h2, h3, h4, h5, g5⟩
theorem changes_law {pi pa pb qi qa qb n d : Int} (_ : I64 pi) (_ : I64 pa) (_ : I64 pb) (_ : I64 qi) (_ : I64 qa) (_ : I64 qb) (hn : I64 n) (hd : I64 d) :
    Pure Try.prog 14 #[pointV pi pa pb, pointV qi qa qb, ratioV n d] (.bool true) := by
  rcases Two_any (pi := pi) (pa := pa) (pb := pb) (qi := qi) (qa := qa) (qb := qb) hn hd with ⟨h1, h2, h3, h4, t1⟩ | ⟨_, e, he, t1⟩
  · have d0 : 0 < d := by have := okB_den h3; omega
    have a1 := Ahead_ok hn hd h1 h2 h3 h4
    by_cases hb : pb = qb
    · subst hb
      have a2 := Ahead_ok (n := 0) (d := 1) (by unfold I64; omega) (by unfold I64; omega) h1 h2 (by decide) h4
      rw [leads_same d0] at a1
      rw [leads_same (by decide)] at a2
      have m1 := Meet_same h1 h2 h4
      have m2 := Meet_same h2 h1 (Ne.symm h4)
      cases hl : leadsB pa qa pb pb pi qi <;> rw [hl] at a1 a2
      · exact chg_same_f t1 a1 m1 m2 (by simp) at_path a2 alive02
      · exact chg_same_t t1 a1 m1 m2 (by simp) at_path a2 alive02
    · obtain ⟨m, k, k1, k2, k3, k4, k5, k6⟩ := meeting_both h1 h2 hb
      have k0 : 0 < k := by have := okB_den k1; omega
      rw [leads_meet k0 k4 hb] at a1
      have m1 := Meet_diff h1 h2 h4 hb k5
      have m2 := Meet_diff h2 h1 (Ne.symm h4) (Ne.symm hb) k6
      have ck := RCheck_ok k2 k3 k1
      have cc := RCompare_any hn hd k2 k3
      generalize (n * k - m * d).sign = c at *
      by_cases g : pb > qb <;> by_cases l : c ≥ 0
      · rw [dt g, dt l] at a1; exact chg_tt t1 a1 m1 m2 (by simp) (by simp [hb]) ck cc (dt l) (dt g) alive02
      · rw [dt g, df l] at a1; exact chg_tf t1 a1 m1 m2 (by simp) (by simp [hb]) ck cc (df l) (dt g) alive02
      · rw [df g, dt l] at a1; exact chg_ft t1 a1 m1 m2 (by simp) (by simp [hb]) ck cc (dt l) (df g) alive02
      · rw [df g, df l] at a1; exact chg_ff t1 a1 m1 m2 (by simp) (by simp [hb]) ck cc (df l) (df g) alive02
  · exact chg_no t1 (by simpa using he) alive02
end Go.Proofs.Ytjhkeinelbeekaa
