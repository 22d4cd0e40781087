/-
  CourseSame: two points are at one place at their meeting, and what is further is ahead. Conditions: none.
-/
import Derived.Test.YtjhkeinelbeekaaSa
import Derived.Test.YtjhkeinelbeekaaPm
import Derived.Test.YtjhkeinelbeekaaCt
namespace Go.Proofs.Ytjhkeinelbeekaa
open Go.RowKit

theorem same_sign {P Q d N1 D1 N2 D2 : Int} (d0 : 0 < d) (h1 : 1 ≤ D1) (h2 : 1 ≤ D2) (f1 : N1 * d = P * D1) (f2 : N2 * d = Q * D2) :
    ((N1 * D2 - N2 * D1).sign > 0 ↔ P > Q) ∧ ((N1 * D2 - N2 * D1).sign < 0 ↔ P < Q) := by
  have key : (N1 * D2 - N2 * D1) * d = (P - Q) * (D1 * D2) := by
    rw [Int.sub_mul, Int.mul_right_comm N1, Int.mul_right_comm N2, f1, f2, Int.sub_mul, Int.mul_assoc, Int.mul_assoc, Int.mul_comm D2 D1]
  have D0 : 0 < D1 * D2 := Int.mul_pos (by omega) (by omega)
  generalize N1 * D2 - N2 * D1 = X at *
  generalize D1 * D2 = Y at *
  have hx : (X * d < 0 ↔ X < 0) ∧ (0 < X * d ↔ 0 < X) := by
    rcases Int.lt_trichotomy X 0 with h | h | h
    · have := Int.mul_neg_of_neg_of_pos h d0; omega
    · rw [h]; simp
    · have := Int.mul_pos h d0; omega
  have hy : ((P - Q) * Y < 0 ↔ P - Q < 0) ∧ (0 < (P - Q) * Y ↔ 0 < P - Q) := by
    rcases Int.lt_trichotomy (P - Q) 0 with h | h | h
    · have := Int.mul_neg_of_neg_of_pos h D0; omega
    · rw [h]; simp
    · have := Int.mul_pos h D0; omega
  rw [key] at hx
  rcases Int.lt_trichotomy X 0 with h | h | h
  · rw [Int.sign_eq_neg_one_of_neg h]; omega
  · rw [h]; simp; omega
  · rw [Int.sign_eq_one_of_pos h]; omega
/-- A meeting's numbers are small. -/
theorem meeting_small {m k x y : Int} (hk : okB m k = true) (h : m * y = x * k) (hy : y ≠ 0) (x1 : -2097152 ≤ x) (x2 : x ≤ 2097152) (y1 : -2097152 ≤ y) (y2 : y ≤ 2097152) : k ≤ 2097152 ∧ -2097152 ≤ m ∧ m ≤ 2097152 := by
  obtain ⟨k0, _, g⟩ := okB_iff.1 hk
  have e : m.natAbs * y.natAbs = x.natAbs * k.natAbs := by rw [← Int.natAbs_mul, h, Int.natAbs_mul]
  have hd : k.natAbs ∣ y.natAbs := Nat.Coprime.dvd_of_dvd_mul_left (show Nat.Coprime k.natAbs m.natAbs by rw [Nat.coprime_comm]; exact g) ⟨x.natAbs, by rw [e, Nat.mul_comm]⟩
  have hl := Nat.le_of_dvd (by omega) hd
  have hm : m.natAbs ≤ x.natAbs := by
    refine Nat.le_of_mul_le_mul_right (c := y.natAbs) ?_ (by omega)
    rw [e]
    exact Nat.mul_le_mul_left _ hl
  omega
theorem same_law {pi pa pb qi qa qb n d : Int} (_ : I64 pi) (_ : I64 pa) (_ : I64 pb) (_ : I64 qi) (_ : I64 qa) (_ : I64 qb) (hn : I64 n) (hd : I64 d) :
    Pure Try.prog 15 #[pointV pi pa pb, pointV qi qa qb, ratioV n d] (.bool true) := by
  rcases Two_any (pi := pi) (pa := pa) (pb := pb) (qi := qi) (qa := qa) (qb := qb) hn hd with ⟨h1, h2, h3, h4, t1⟩ | ⟨_, e, he, t1⟩
  · have d0 : 0 < d := by have := okB_den h3; omega
    have hp' := okP_iff.1 h1
    have hq' := okP_iff.1 h2
    have a1 := Ahead_ok hn hd h1 h2 h3 h4
    obtain ⟨N1, D1, E1, r1, x1⟩ := At_res hn hd h1 h3
    obtain ⟨N2, D2, E2, r2, x2⟩ := At_res hn hd h2 h3
    by_cases hb : pb = qb
    · have bb : (pb == qb) = true := by simp [hb]
      rcases r1 with ⟨rfl, k1, i1, j1, f1⟩ | ⟨rfl, _, _, _⟩ <;> rcases r2 with ⟨rfl, k2, i2, j2, f2⟩ | ⟨rfl, _, _, _⟩
      · have cp := RCompare_any i1 j1 i2 j2
        have hc := same_sign d0 (okB_den k1) (okB_den k2) f1 f2
        generalize (N1 * D2 - N2 * D1).sign = c at *
        by_cases cz : c = 0
        · exact same_00z_b t1 x1 x2 a1 (RCheck_ok i1 j1 k1) (RCheck_ok i2 j2 k2) cp (by simp [cz]) bb alive02
        · by_cases cg : c > 0
          · rw [leads_t (Or.inl (hc.1.1 cg))] at a1
            exact same_00t_b t1 x1 x2 a1 (RCheck_ok i1 j1 k1) (RCheck_ok i2 j2 k2) cp (by simp [cz]) (dt cg) bb alive02
          · rw [leads_f (by have := hc.2; omega)] at a1
            exact same_00f_b t1 x1 x2 a1 (RCheck_ok i1 j1 k1) (RCheck_ok i2 j2 k2) cp (by simp [cz]) (df cg) bb alive02
      · exact same_01_b t1 x1 x2 a1 (RCheck_ok i1 j1 k1) bb alive02
      · exact same_10_b t1 x1 x2 a1 (RCheck_ok i2 j2 k2) bb alive02
      · exact same_11_b t1 x1 x2 a1 bb alive02
    · have bb : (pb == qb) = false := by simp [hb]
      obtain ⟨m, k, k1, k2, k3, k4, k5⟩ := meeting_ok h1 h2 hb
      have m1 := Meet_diff h1 h2 h4 hb k5
      have k0 : 0 < k := by have := okB_den k1; omega
      obtain ⟨s1, s2, s3⟩ := meeting_small k1 k4 (by omega) (by omega) (by omega) (by omega) (by omega)
      have same : pa * k + pb * m = qa * k + qb * m := by
        have e1 : m * (pb - qb) = pb * m - qb * m := by rw [Int.mul_comm, Int.sub_mul]
        rw [e1, Int.sub_mul] at k4
        omega
      obtain ⟨u, v, E, ru, u1⟩ := At_res k2 k3 h1 k1
      obtain ⟨u', v', E', ru', u2⟩ := At_res k2 k3 h2 k1
      rw [← same] at ru'
      obtain ⟨rfl, rfl, rfl⟩ := ru.uniq ru' (by omega)
      have bd1 := mulB (a := pa) (x := k) (A := 1048576) (X := 2097152) (by omega) (by omega) (by omega) (by omega) (by decide) (by decide)
      have bd2 := mulB (a := pb) (x := m) (A := 1048576) (X := 2097152) (by omega) (by omega) (by omega) (by omega) (by decide) (by decide)
      obtain ⟨rfl, _⟩ := ru.fits k0 (by omega) (by omega) (by omega)
      have b1 := Ahead_ok k2 k3 h1 h2 k1 h4
      rw [leads_meet k0 k4 hb, Int.sub_self, dt (show Int.sign 0 ≥ 0 by decide)] at b1
      clear same ru ru' bd1 bd2 k4 k5 k1 k2 k3
      by_cases g : pb > qb
      · rw [dt g] at b1
        rcases r1 with ⟨rfl, k1, i1, j1, f1⟩ | ⟨rfl, _, _, _⟩ <;> rcases r2 with ⟨rfl, k2, i2, j2, f2⟩ | ⟨rfl, _, _, _⟩
        · have cp := RCompare_any i1 j1 i2 j2
          have hc := same_sign d0 (okB_den k1) (okB_den k2) f1 f2
          generalize (N1 * D2 - N2 * D1).sign = c at *
          by_cases cz : c = 0
          · exact same_00z_t t1 x1 x2 a1 (RCheck_ok i1 j1 k1) (RCheck_ok i2 j2 k2) cp (by simp [cz]) bb m1 u1 u2 b1 eqq (dt g) alive02
          · by_cases cg : c > 0
            · rw [leads_t (Or.inl (hc.1.1 cg))] at a1
              exact same_00t_t t1 x1 x2 a1 (RCheck_ok i1 j1 k1) (RCheck_ok i2 j2 k2) cp (by simp [cz]) (dt cg) bb m1 u1 u2 b1 eqq (dt g) alive02
            · rw [leads_f (by have := hc.2; omega)] at a1
              exact same_00f_t t1 x1 x2 a1 (RCheck_ok i1 j1 k1) (RCheck_ok i2 j2 k2) cp (by simp [cz]) (df cg) bb m1 u1 u2 b1 eqq (dt g) alive02
        · exact same_01_t t1 x1 x2 a1 (RCheck_ok i1 j1 k1) bb m1 u1 u2 b1 eqq (dt g) alive02
        · exact same_10_t t1 x1 x2 a1 (RCheck_ok i2 j2 k2) bb m1 u1 u2 b1 eqq (dt g) alive02
        · exact same_11_t t1 x1 x2 a1 bb m1 u1 u2 b1 eqq (dt g) alive02
      · rw [df g] at b1
        rcases r1 with ⟨rfl, k1, i1, j1, f1⟩ | ⟨rfl, _, _, _⟩ <;> rcases r2 with ⟨rfl, k2, i2, j2, f2⟩ | ⟨rfl, _, _, _⟩
        · have cp := RCompare_any i1 j1 i2 j2
          have hc := same_sign d0 (okB_den k1) (okB_den k2) f1 f2
          generalize (N1 * D2 - N2 * D1).sign = c at *
          by_cases cz : c = 0
          · exact same_00z_f t1 x1 x2 a1 (RCheck_ok i1 j1 k1) (RCheck_ok i2 j2 k2) cp (by simp [cz]) bb m1 u1 u2 b1 eqq (df g) alive02
          · by_cases cg : c > 0
            · rw [leads_t (Or.inl (hc.1.1 cg))] at a1
              exact same_00t_f t1 x1 x2 a1 (RCheck_ok i1 j1 k1) (RCheck_ok i2 j2 k2) cp (by simp [cz]) (dt cg) bb m1 u1 u2 b1 eqq (df g) alive02
            · rw [leads_f (by have := hc.2; omega)] at a1
              exact same_00f_f t1 x1 x2 a1 (RCheck_ok i1 j1 k1) (RCheck_ok i2 j2 k2) cp (by simp [cz]) (df cg) bb m1 u1 u2 b1 eqq (df g) alive02
        · exact same_01_f t1 x1 x2 a1 (RCheck_ok i1 j1 k1) bb m1 u1 u2 b1 eqq (df g) alive02
        · exact same_10_f t1 x1 x2 a1 (RCheck_ok i2 j2 k2) bb m1 u1 u2 b1 eqq (df g) alive02
        · exact same_11_f t1 x1 x2 a1 bb m1 u1 u2 b1 eqq (df g) alive02
  · exact same_no t1 (by simpa using he) alive02
end Go.Proofs.Ytjhkeinelbeekaa
