/-
  CourseOrder: at each time ahead is a total order. Conditions: none.
-/
import Derived.Test.YtjjmnoiffpnphaaCp
import Derived.Test.YtjjmnoiffpnphaaW24
namespace Go.Proofs.Ytjjmnoiffpnphaa
open Go.RowKit
/-- Is a point valid? -/
def okP (n a b : Int) : Bool := decide (0 ≤ n ∧ n ≤ 65535 ∧ -1048576 ≤ a ∧ a ≤ 1048576 ∧ -1048576 ≤ b ∧ b ≤ 1048576)
theorem okP_iff {n a b : Int} : okP n a b = true ↔ 0 ≤ n ∧ n ≤ 65535 ∧ -1048576 ≤ a ∧ a ≤ 1048576 ∧ -1048576 ≤ b ∧ b ≤ 1048576 := by simp [okP]
theorem dt {p : Prop} [Decidable p] (h : p) : decide p = true := by simp [h]
theorem df {p : Prop} [Decidable p] (h : ¬ p) : decide p = false := by simp [h]
theorem Check02_ok {n a b : Int} (h : okP n a b = true) : Pure Try.prog 60 #[pointV n a b] (.int .i64 0) := by
  have h' := okP_iff.1 h
  exact ck_ok (df (by omega)) (df (by omega)) (dt (by omega)) (dt (by omega)) (dt (by omega)) (dt (by omega))
theorem RCheck02_ok {n a b : Int} (h : okP n a b = true) : Pure Try.prog 74 #[pointV n a b] (.int .i64 0) := by
  have h' := okP_iff.1 h
  exact rck_ok (df (by omega)) (df (by omega)) (df (by omega)) (df (by omega)) (df (by omega)) (df (by omega))
theorem Check02_bad {n a b : Int} (h : ¬ okP n a b = true) : Pure Try.prog 60 #[pointV n a b] (.int .i64 8) := by
  rw [okP_iff] at h
  by_cases h1 : n < 0
  · exact ck_i0 (dt h1)
  by_cases h2 : n > 65535
  · exact ck_i1 (df h1) (dt h2)
  by_cases h3 : -1048576 ≤ a
  · by_cases h4 : a ≤ 1048576
    · by_cases h5 : -1048576 ≤ b
      · exact ck_bh (df h1) (df h2) (dt h3) (dt h4) (dt h5) (df (by omega))
      · exact ck_bl (df h1) (df h2) (dt h3) (dt h4) (df h5)
    · exact ck_ah (df h1) (df h2) (dt h3) (df h4)
  · exact ck_al (df h1) (df h2) (df h3)
theorem RCheck02_bad {n a b : Int} (h : ¬ okP n a b = true) : Pure Try.prog 74 #[pointV n a b] (.int .i64 8) := by
  rw [okP_iff] at h
  by_cases h1 : n < 0
  · exact rck_0 (dt h1)
  by_cases h2 : n > 65535
  · exact rck_1 (df h1) (dt h2)
  by_cases h3 : a < -1048576
  · exact rck_2 (df h1) (df h2) (dt h3)
  by_cases h4 : a > 1048576
  · exact rck_3 (df h1) (df h2) (df h3) (dt h4)
  by_cases h5 : b < -1048576
  · exact rck_4 (df h1) (df h2) (df h3) (df h4) (dt h5)
  · exact rck_5 (df h1) (df h2) (df h3) (df h4) (df h5) (dt (by omega))
/-- Ahead, by the places over the denominator. -/
def leadsB (P Q pb qb pi qi : Int) : Bool := decide (P > Q ∨ P = Q ∧ (pb > qb ∨ pb = qb ∧ pi < qi))
theorem leads_t {P Q pb qb pi qi : Int} (h : P > Q ∨ P = Q ∧ (pb > qb ∨ pb = qb ∧ pi < qi)) : leadsB P Q pb qb pi qi = true := dt h
theorem leads_f {P Q pb qb pi qi : Int} (h : ¬ (P > Q ∨ P = Q ∧ (pb > qb ∨ pb = qb ∧ pi < qi))) : leadsB P Q pb qb pi qi = false := df h

theorem meeting_ok {pi pa pb qi qa qb : Int} (hp : okP pi pa pb = true) (hq : okP qi qa qb = true) (hb : pb ≠ qb) :
    ∃ m n, okB m n = true ∧ I64 m ∧ I64 n ∧ m * (pb - qb) = (qa - pa) * n ∧ Pure Try.prog 81 #[pointV pi pa pb, pointV qi qa qb] (ratioV m n) := by
  have hp' := okP_iff.1 hp
  have hq' := okP_iff.1 hq
  obtain ⟨N, D, E, hr, hm⟩ := Make_res (a := qa - pa) (b := pb - qb) (by unfold I64; omega) (by unfold I64; omega) (by omega)
  have key : E = 0 ∧ okB N D = true ∧ I64 N ∧ I64 D ∧ N * (pb - qb) = (qa - pa) * D := by
    by_cases hs : 0 < pb - qb
    · exact hr.fits hs (by omega) (by omega) (by omega)
    · have h2 := hr.congr (p' := -(qa - pa)) (q' := -(pb - qb)) (by omega) (by omega) (by rw [Int.mul_neg, Int.neg_mul])
      obtain ⟨e1, e2, e3, e4, e5⟩ := h2.fits (by omega) (by omega) (by omega) (by omega)
      refine ⟨e1, e2, e3, e4, ?_⟩
      rw [Int.mul_neg, Int.neg_mul] at e5
      omega
  obtain ⟨rfl, k1, k2, k3, k4⟩ := key
  exact ⟨N, D, k1, k2, k3, k4, meeting_path (by rw [wrap_i64_in (by omega) (by omega)]) (by rw [wrap_i64_in (by omega) (by omega)]) hm⟩

theorem Ahead_ok {pi pa pb qi qa qb n d : Int} (hn : I64 n) (hd : I64 d) (hp : okP pi pa pb = true) (hq : okP qi qa qb = true) (ht : okB n d = true) (hij : pi ≠ qi) :
    Pure Try.prog 38 #[pointV pi pa pb, pointV qi qa qb, ratioV n d] (.tuple #[.bool (leadsB (pa * d + pb * n) (qa * d + qb * n) pb qb pi qi), .int .i64 0]) := by
  have c1 := Check02_ok hp
  have c2 := Check02_ok hq
  have c3 := Check_ok hn hd ht
  have c4 : Pure Try.prog 61 #[pointV pi pa pb, pointV qi qa qb] (.int .i64 0) := ids_n (by simp [hij])
  have d0 : 0 < d := by have := okB_den ht; omega
  by_cases hb : pb = qb
  · subst hb
    by_cases ha : pa = qa
    · subst ha
      by_cases hi : pi < qi
      · rw [leads_t (Or.inr ⟨rfl, Or.inr ⟨rfl, hi⟩⟩)]
        exact ahead_wt c1 c2 c3 c4 (by simp) (dt hi)
      · rw [leads_f (by omega)]
        exact ahead_wf c1 c2 c3 c4 (by simp) (df hi)
    · have e : pa * d - qa * d = (pa - qa) * d := (Int.sub_mul _ _ _).symm
      by_cases hg : pa > qa
      · have := Int.mul_pos (show 0 < pa - qa by omega) d0
        rw [leads_t (Or.inl (by omega))]
        exact ahead_bt c1 c2 c3 c4 (by simp [ha]) (by simp) (dt hg)
      · have := Int.mul_neg_of_neg_of_pos (show pa - qa < 0 by omega) d0
        rw [leads_f (by omega)]
        exact ahead_bf c1 c2 c3 c4 (by simp [ha]) (by simp) (df hg)
  · obtain ⟨m, k, h1, h2, h3, h4, h5⟩ := meeting_ok hp hq hb
    have cc := Cmp_ok hn hd h2 h3 ht h1
    have k0 : 0 < k := by have := okB_den h1; omega
    have key : (pa * d + pb * n - (qa * d + qb * n)) * k = (pb - qb) * (n * k - m * d) := by
      have e1 : (pb - qb) * (m * d) = (qa - pa) * k * d := by rw [← h4, ← Int.mul_assoc, Int.mul_comm (pb - qb) m]
      rw [Int.mul_sub, e1, Int.sub_mul, Int.add_mul, Int.add_mul, Int.sub_mul, Int.sub_mul, Int.sub_mul, ← Int.mul_assoc, ← Int.mul_assoc, Int.mul_right_comm qa k d, Int.mul_right_comm pa k d]
      omega
    have hs : (0 ≤ n * k - m * d ↔ (n * k - m * d).sign ≥ 0) := by
      rcases Int.lt_trichotomy (n * k - m * d) 0 with h | h | h
      · rw [Int.sign_eq_neg_one_of_neg h]; omega
      · rw [h]; decide
      · rw [Int.sign_eq_one_of_pos h]; omega
    generalize n * k - m * d = X at *
    generalize hP : pa * d + pb * n = P at *
    generalize hQ : qa * d + qb * n = Q at *
    by_cases hg : pb > qb
    · by_cases hx : 0 ≤ X
      · have := Int.mul_nonneg (show 0 ≤ pb - qb by omega) hx
        rw [leads_t (by
          rcases Int.lt_or_le P Q with h | h
          · have := Int.mul_neg_of_neg_of_pos (show P - Q < 0 by omega) k0; omega
          · rcases Int.lt_or_eq_of_le h with h | h
            · exact Or.inl h
            · exact Or.inr ⟨h.symm, Or.inl hg⟩)]
        exact ahead_mtt c1 c2 c3 c4 (by simp [hb]) (by simp [hb]) h5 cc (dt (hs.1 hx)) (dt hg)
      · have := Int.mul_neg_of_pos_of_neg (show 0 < pb - qb by omega) (show X < 0 by omega)
        rw [leads_f (by
          intro h
          have hle : 0 ≤ P - Q := by omega
          have := Int.mul_nonneg hle (Int.le_of_lt k0)
          omega)]
        exact ahead_mft c1 c2 c3 c4 (by simp [hb]) (by simp [hb]) h5 cc (df (fun h => hx (hs.2 h))) (dt hg)
    · by_cases hx : 0 ≤ X
      · have := Int.mul_nonneg (show 0 ≤ qb - pb by omega) hx
        have e : (pb - qb) * X = -((qb - pb) * X) := by rw [← Int.neg_mul]; congr 1; omega
        rw [leads_f (by
          intro h
          have hlt : 0 < P - Q := by omega
          have := Int.mul_pos hlt k0
          omega)]
        exact ahead_mtf c1 c2 c3 c4 (by simp [hb]) (by simp [hb]) h5 cc (dt (hs.1 hx)) (df hg)
      · have := Int.mul_pos_of_neg_of_neg (show pb - qb < 0 by omega) (show X < 0 by omega)
        rw [leads_t (by
          left
          rcases Int.lt_or_le Q P with h | h
          · exact h
          · have : (P - Q) * k ≤ 0 := by
              have := Int.mul_nonneg (show 0 ≤ Q - P by omega) (Int.le_of_lt k0)
              have e : (P - Q) * k = -((Q - P) * k) := by rw [← Int.neg_mul]; congr 1; omega
              omega
            omega)]
        exact ahead_mff c1 c2 c3 c4 (by simp [hb]) (by simp [hb]) h5 cc (df (fun h => hx (hs.2 h))) (df hg)

end Go.Proofs.Ytjjmnoiffpnphaa
