/-
  CourseOrder: at each time ahead is a total order. Conditions: none.
-/
import Derived.Test.YtgpbofinbpcceaaW24
namespace Go.Proofs.Ytgpbofinbpcceaa
open Go.RowKit
/-- Is a point valid? -/
def okP (n a b : Int) : Bool := decide (0 ≤ n ∧ n ≤ 65535 ∧ -1048576 ≤ a ∧ a ≤ 1048576 ∧ -1048576 ≤ b ∧ b ≤ 1048576)
theorem okP_iff {n a b : Int} : okP n a b = true ↔ 0 ≤ n ∧ n ≤ 65535 ∧ -1048576 ≤ a ∧ a ≤ 1048576 ∧ -1048576 ≤ b ∧ b ≤ 1048576 := by simp [okP]
theorem dt {p : Prop} [Decidable p] (h : p) : decide p = true := by simp [h]
theorem df {p : Prop} [Decidable p] (h : ¬ p) : decide p = false := by simp [h]
theorem Check02_ok {n a b : Int} (h : okP n a b = true) : Pure Try.prog 51 #[pointV n a b] (.int .i64 0) := by
  have h' := okP_iff.1 h
  exact ck_ok (df (by omega)) (df (by omega)) (dt (by omega)) (dt (by omega)) (dt (by omega)) (dt (by omega))
theorem RCheck02_ok {n a b : Int} (h : okP n a b = true) : Pure Try.prog 97 #[pointV n a b] (.int .i64 0) := by
  have h' := okP_iff.1 h
  exact rck_ok (df (by omega)) (df (by omega)) (df (by omega)) (df (by omega)) (df (by omega)) (df (by omega))
theorem Check02_bad {n a b : Int} (h : ¬ okP n a b = true) : Pure Try.prog 51 #[pointV n a b] (.int .i64 8) := by
  rw [okP_iff] at h
  by_cases h1 : n < 0
  · exact ck_i0 (dt h1)
  by_cases h2 : n > 65535
  · exact ck_i1 (df h1) (dt h2)
  by_cases h3 : -1048576 ≤ a
  · by_cases h4 : a ≤ 1048576
    · by_cases h5 : -1048576 ≤ b
      · exact ck_bh (df h1) (df h2) (dt h3) (dt h4) (dt h5) (df (by omega))
      · exact ck_bl (df h1) (df h2) (dt h3) (dt h4) (df h5)
    · exact ck_ah (df h1) (df h2) (dt h3) (df h4)
  · exact ck_al (df h1) (df h2) (df h3)
theorem RCheck02_bad {n a b : Int} (h : ¬ okP n a b = true) : Pure Try.prog 97 #[pointV n a b] (.int .i64 8) := by
  rw [okP_iff] at h
  by_cases h1 : n < 0
  · exact rck_0 (dt h1)
  by_cases h2 : n > 65535
  · exact rck_1 (df h1) (dt h2)
  by_cases h3 : a < -1048576
  · exact rck_2 (df h1) (df h2) (dt h3)
  by_cases h4 : a > 1048576
  · exact rck_3 (df h1) (df h2) (df h3) (dt h4)
  by_cases h5 : b < -1048576
  · exact rck_4 (df h1) (df h2) (df h3) (df h4) (dt h5)
  · exact rck_5 (df h1) (df h2) (df h3) (df h4) (df h5) (dt (by omega))
/-- Ahead, by the places over the denominator. -/
def leadsB (P Q pb qb pi qi : Int) : Bool := decide (P > Q ∨ P = Q ∧ (pb > qb ∨ pb = qb ∧ pi < qi))
theorem meeting_ok {pi pa pb qi qa qb : Int} (hp : okP pi pa pb = true) (hq : okP qi qa qb = true) (hb : pb ≠ qb) :
    ∃ m n, okB m n = true ∧ I64 m ∧ I64 n ∧ m * (pb - qb) = (qa - pa) * n ∧ Pure Try.prog 108 #[pointV pi pa pb, pointV qi qa qb] (ratioV m n) := by
  have hp' := okP_iff.1 hp
  have hq' := okP_iff.1 hq
  obtain ⟨N, D, E, hr, hm⟩ := Make_res (a := qa - pa) (b := pb - qb) (by unfold I64; omega) (by unfold I64; omega) (by omega)
  have key : E = 0 ∧ okB N D = true ∧ I64 N ∧ I64 D ∧ N * (pb - qb) = (qa - pa) * D := by
    by_cases hs : 0 < pb - qb
    · exact hr.fits hs (by omega) (by omega) (by omega)
    · have h2 := hr.congr (p' := -(qa - pa)) (q' := -(pb - qb)) (by omega) (by omega) (by rw [Int.mul_neg, Int.neg_mul])
      obtain ⟨e1, e2, e3, e4, e5⟩ := h2.fits (by omega) (by omega) (by omega) (by omega)
      refine ⟨e1, e2, e3, e4, ?_⟩
      rw [Int.mul_neg, Int.neg_mul] at e5
      omega
  obtain ⟨rfl, k1, k2, k3, k4⟩ := key
  exact ⟨N, D, k1, k2, k3, k4, meeting_path (by rw [wrap_i64_in (by omega) (by omega)]) (by rw [wrap_i64_in (by omega) (by omega)]) hm⟩

end Go.Proofs.Ytgpbofinbpcceaa
