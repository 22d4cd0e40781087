/-
  Joined: Cu, Cr, Pm, Ct, Fa, Fd. Conditions: none.
-/
import Derived.Test.YtoheadpehomdjaaW24
import Derived.Laws.Bits64b
namespace Go.Proofs.Ytoheadpehomdjaa
open Go.RowKit
set_option maxRecDepth 100000 in
theorem ahead_e3 {pi pa pb qi qa qb n d : Int} (cp : Pure Try.prog 39 #[pointV pi pa pb] (.int .i64 0)) (cq : Pure Try.prog 39 #[pointV qi qa qb] (.int .i64 0)) (ct : Pure Try.prog 19 #[ratioV n d] (.int .i64 0)) (ci : Pure Try.prog 59 #[pointV pi pa pb, pointV qi qa qb] (.int .i64 2)) :
    Pure Try.prog 47 #[pointV pi pa pb, pointV qi qa qb, ratioV n d] (.tuple #[.bool false, .int .i64 2]) :=
  pure_run (args := [pointV pi pa pb, pointV qi qa qb, ratioV n d]) 200 [.r (.int .i64 0), .r (.int .i64 0), .r (.int .i64 0), .r (.int .i64 2), .k, .k, .k, .k, .k, .k, .k, .k, .k, .k, .k, .k, .k]
    (And.intro rfl (And.intro cp (And.intro cq (And.intro ct (And.intro ci True.intro))))) (by kernel_rfl)

set_option maxRecDepth 100000 in
theorem fails_e3 {pi pa pb qi qa qb n d : Int} (cp : Pure Try.prog 39 #[pointV pi pa pb] (.int .i64 0)) (cq : Pure Try.prog 39 #[pointV qi qa qb] (.int .i64 0)) (ct : Pure Try.prog 19 #[ratioV n d] (.int .i64 0)) (ci : Pure Try.prog 59 #[pointV pi pa pb, pointV qi qa qb] (.int .i64 2)) :
    Pure Try.prog 48 #[pointV pi pa pb, pointV qi qa qb, ratioV n d] (.tuple #[ratioV 0 0, .bool false, .int .i64 2]) :=
  pure_run (args := [pointV pi pa pb, pointV qi qa qb, ratioV n d]) 200 [.r (.int .i64 0), .r (.int .i64 0), .r (.int .i64 0), .r (.int .i64 2), .k, .k, .k, .k, .k, .k, .k, .k, .k, .k, .k, .k, .k]
    (And.intro rfl (And.intro cp (And.intro cq (And.intro ct (And.intro ci True.intro))))) (by kernel_rfl)

set_option maxRecDepth 100000 in
theorem fails_wf {pi pa pb qi qa qb n d : Int} (cp : Pure Try.prog 39 #[pointV pi pa pb] (.int .i64 0)) (cq : Pure Try.prog 39 #[pointV qi qa qb] (.int .i64 0)) (ct : Pure Try.prog 19 #[ratioV n d] (.int .i64 0)) (ci : Pure Try.prog 59 #[pointV pi pa pb, pointV qi qa qb] (.int .i64 0)) (w : (qa == pa && (qb == pb && true)) = true) (r : decide (qi < pi) = false) (gb : decide (qb > pb) = false) :
    Pure Try.prog 48 #[pointV pi pa pb, pointV qi qa qb, ratioV n d] (.tuple #[ratioV 0 0, .bool false, .int .i64 0]) :=
  pure_run (args := [pointV pi pa pb, pointV qi qa qb, ratioV n d]) 400 [.r (.int .i64 0), .r (.int .i64 0), .r (.int .i64 0), .r (.int .i64 0), .k, .k, .k, .k, .k, .k, .k, .k, .k, .k, .k, .k, .k, .k, .k, .k, .k, .k, .t true, .k, .t false, .t false]
    (And.intro rfl (And.intro cp (And.intro cq (And.intro ct (And.intro ci (And.intro w (And.intro r (And.intro gb True.intro)))))))) (by kernel_rfl)

set_option maxRecDepth 100000 in
theorem fails_bf {pi pa pb qi qa qb n d : Int} (cp : Pure Try.prog 39 #[pointV pi pa pb] (.int .i64 0)) (cq : Pure Try.prog 39 #[pointV qi qa qb] (.int .i64 0)) (ct : Pure Try.prog 19 #[ratioV n d] (.int .i64 0)) (ci : Pure Try.prog 59 #[pointV pi pa pb, pointV qi qa qb] (.int .i64 0)) (w : (qa == pa && (qb == pb && true)) = false) (bb : (qb == pb) = true) (r : decide (qa > pa) = false) (gb : decide (qb > pb) = false) :
    Pure Try.prog 48 #[pointV pi pa pb, pointV qi qa qb, ratioV n d] (.tuple #[ratioV 0 0, .bool false, .int .i64 0]) :=
  pure_run (args := [pointV pi pa pb, pointV qi qa qb, ratioV n d]) 400 [.r (.int .i64 0), .r (.int .i64 0), .r (.int .i64 0), .r (.int .i64 0), .k, .k, .k, .k, .k, .k, .k, .k, .k, .k, .k, .k, .k, .k, .k, .k, .k, .k, .t false, .t true, .k, .t false, .t false]
    (And.intro rfl (And.intro cp (And.intro cq (And.intro ct (And.intro ci (And.intro w (And.intro bb (And.intro r (And.intro gb True.intro))))))))) (by kernel_rfl)

set_option maxRecDepth 100000 in
theorem fails_mtf {pi pa pb qi qa qb n d mn md c : Int} (cp : Pure Try.prog 39 #[pointV pi pa pb] (.int .i64 0)) (cq : Pure Try.prog 39 #[pointV qi qa qb] (.int .i64 0)) (ct : Pure Try.prog 19 #[ratioV n d] (.int .i64 0)) (ci : Pure Try.prog 59 #[pointV pi pa pb, pointV qi qa qb] (.int .i64 0)) (w : (qa == pa && (qb == pb && true)) = false) (bb : (qb == pb) = false) (cm : Pure Try.prog 61 #[pointV qi qa qb, pointV pi pa pb] (ratioV mn md)) (cc : Pure Try.prog 49 #[ratioV n d, ratioV mn md] (.tuple #[.int .i64 c, .int .i64 0])) (g1 : decide (c ≥ 0) = true) (gb : decide (qb > pb) = false) :
    Pure Try.prog 48 #[pointV pi pa pb, pointV qi qa qb, ratioV n d] (.tuple #[ratioV 0 0, .bool false, .int .i64 0]) :=
  pure_run (args := [pointV pi pa pb, pointV qi qa qb, ratioV n d]) 400 [.r (.int .i64 0), .r (.int .i64 0), .r (.int .i64 0), .r (.int .i64 0), .k, .k, .k, .k, .k, .k, .k, .k, .k, .k, .k, .k, .k, .k, .k, .k, .k, .k, .t false, .t false, .r (ratioV mn md), .k, .r (.tuple #[.int .i64 c, .int .i64 0]), .t true, .t false, .k, .t false]
    (And.intro rfl (And.intro cp (And.intro cq (And.intro ct (And.intro ci (And.intro w (And.intro bb (And.intro cm (And.intro cc (And.intro g1 (And.intro gb (And.intro gb True.intro)))))))))))) (by kernel_rfl)

set_option maxRecDepth 100000 in
theorem fails_mft {pi pa pb qi qa qb n d mn md c m k : Int} (cp : Pure Try.prog 39 #[pointV pi pa pb] (.int .i64 0)) (cq : Pure Try.prog 39 #[pointV qi qa qb] (.int .i64 0)) (ct : Pure Try.prog 19 #[ratioV n d] (.int .i64 0)) (ci : Pure Try.prog 59 #[pointV pi pa pb, pointV qi qa qb] (.int .i64 0)) (w : (qa == pa && (qb == pb && true)) = false) (bb : (qb == pb) = false) (cm : Pure Try.prog 61 #[pointV qi qa qb, pointV pi pa pb] (ratioV mn md)) (cc : Pure Try.prog 49 #[ratioV n d, ratioV mn md] (.tuple #[.int .i64 c, .int .i64 0])) (g1 : decide (c ≥ 0) = false) (gb : decide (qb > pb) = true) (mt : Pure Try.prog 61 #[pointV pi pa pb, pointV qi qa qb] (ratioV m k)) :
    Pure Try.prog 48 #[pointV pi pa pb, pointV qi qa qb, ratioV n d] (.tuple #[ratioV m k, .bool true, .int .i64 0]) :=
  pure_run (args := [pointV pi pa pb, pointV qi qa qb, ratioV n d]) 400 [.r (.int .i64 0), .r (.int .i64 0), .r (.int .i64 0), .r (.int .i64 0), .k, .k, .k, .k, .k, .k, .k, .k, .k, .k, .k, .k, .k, .k, .k, .k, .k, .k, .t false, .t false, .r (ratioV mn md), .k, .r (.tuple #[.int .i64 c, .int .i64 0]), .t false, .t true, .k, .t true, .r (ratioV m k)]
    (And.intro rfl (And.intro cp (And.intro cq (And.intro ct (And.intro ci (And.intro w (And.intro bb (And.intro cm (And.intro cc (And.intro g1 (And.intro gb (And.intro gb (And.intro mt True.intro))))))))))))) (by kernel_rfl)

end Go.Proofs.Ytoheadpehomdjaa

namespace Go.Proofs.Ytoheadpehomdjaa
open Go.RowKit
/-- Is a point valid? -/
def okP (n a b : Int) : Bool := decide (0 ≤ n ∧ n ≤ 65535 ∧ -1048576 ≤ a ∧ a ≤ 1048576 ∧ -1048576 ≤ b ∧ b ≤ 1048576)
theorem okP_iff {n a b : Int} : okP n a b = true ↔ 0 ≤ n ∧ n ≤ 65535 ∧ -1048576 ≤ a ∧ a ≤ 1048576 ∧ -1048576 ≤ b ∧ b ≤ 1048576 := by simp [okP]
theorem dt {p : Prop} [Decidable p] (h : p) : decide p = true := by simp [h]
theorem df {p : Prop} [Decidable p] (h : ¬ p) : decide p = false := by simp [h]
theorem Check02_ok {n a b : Int} (h : okP n a b = true) : Pure Try.prog 39 #[pointV n a b] (.int .i64 0) := by
  have h' := okP_iff.1 h
  exact ck_ok (df (by omega)) (df (by omega)) (dt (by omega)) (dt (by omega)) (dt (by omega)) (dt (by omega))
theorem Check02_bad {n a b : Int} (h : ¬ okP n a b = true) : Pure Try.prog 39 #[pointV n a b] (.int .i64 8) := by
  rw [okP_iff] at h
  by_cases h1 : n < 0
  · exact ck_i0 (dt h1)
  by_cases h2 : n > 65535
  · exact ck_i1 (df h1) (dt h2)
  by_cases h3 : -1048576 ≤ a
  · by_cases h4 : a ≤ 1048576
    · by_cases h5 : -1048576 ≤ b
      · exact ck_bh (df h1) (df h2) (dt h3) (dt h4) (dt h5) (df (by omega))
      · exact ck_bl (df h1) (df h2) (dt h3) (dt h4) (df h5)
    · exact ck_ah (df h1) (df h2) (dt h3) (df h4)
  · exact ck_al (df h1) (df h2) (df h3)
/-- Ahead, by the places over the denominator. -/
def leadsB (P Q pb qb pi qi : Int) : Bool := decide (P > Q ∨ P = Q ∧ (pb > qb ∨ pb = qb ∧ pi < qi))
theorem leads_t {P Q pb qb pi qi : Int} (h : P > Q ∨ P = Q ∧ (pb > qb ∨ pb = qb ∧ pi < qi)) : leadsB P Q pb qb pi qi = true := dt h
theorem leads_f {P Q pb qb pi qi : Int} (h : ¬ (P > Q ∨ P = Q ∧ (pb > qb ∨ pb = qb ∧ pi < qi))) : leadsB P Q pb qb pi qi = false := df h

theorem meeting_ok {pi pa pb qi qa qb : Int} (hp : okP pi pa pb = true) (hq : okP qi qa qb = true) (hb : pb ≠ qb) :
    ∃ m n, okB m n = true ∧ I64 m ∧ I64 n ∧ m * (pb - qb) = (qa - pa) * n ∧ Pure Try.prog 61 #[pointV pi pa pb, pointV qi qa qb] (ratioV m n) := by
  have hp' := okP_iff.1 hp
  have hq' := okP_iff.1 hq
  obtain ⟨N, D, E, hr, hm⟩ := Make_res (a := qa - pa) (b := pb - qb) (by unfold I64; omega) (by unfold I64; omega) (by omega)
  have key : E = 0 ∧ okB N D = true ∧ I64 N ∧ I64 D ∧ N * (pb - qb) = (qa - pa) * D := by
    by_cases hs : 0 < pb - qb
    · exact hr.fits hs (by omega) (by omega) (by omega)
    · have h2 := hr.congr (p' := -(qa - pa)) (q' := -(pb - qb)) (by omega) (by omega) (by rw [Int.mul_neg, Int.neg_mul])
      obtain ⟨e1, e2, e3, e4, e5⟩ := h2.fits (by omega) (by omega) (by omega) (by omega)
      refine ⟨e1, e2, e3, e4, ?_⟩
      rw [Int.mul_neg, Int.neg_mul] at e5
      omega
  obtain ⟨rfl, k1, k2, k3, k4⟩ := key
  exact ⟨N, D, k1, k2, k3, k4, meeting_path (by rw [wrap_i64_in (by omega) (by omega)]) (by rw [wrap_i64_in (by omega) (by omega)]) hm⟩

theorem Ahead_ok {pi pa pb qi qa qb n d : Int} (hn : I64 n) (hd : I64 d) (hp : okP pi pa pb = true) (hq : okP qi qa qb = true) (ht : okB n d = true) (hij : pi ≠ qi) :
    Pure Try.prog 47 #[pointV pi pa pb, pointV qi qa qb, ratioV n d] (.tuple #[.bool (leadsB (pa * d + pb * n) (qa * d + qb * n) pb qb pi qi), .int .i64 0]) := by
  have c1 := Check02_ok hp
  have c2 := Check02_ok hq
  have c3 := Check_ok hn hd ht
  have c4 : Pure Try.prog 59 #[pointV pi pa pb, pointV qi qa qb] (.int .i64 0) := ids_n (by simp [hij])
  have d0 : 0 < d := by have := okB_den ht; omega
  by_cases hb : pb = qb
  · subst hb
    by_cases ha : pa = qa
    · subst ha
      by_cases hi : pi < qi
      · rw [leads_t (Or.inr ⟨rfl, Or.inr ⟨rfl, hi⟩⟩)]
        exact ahead_wt c1 c2 c3 c4 (by simp) (dt hi)
      · rw [leads_f (by omega)]
        exact ahead_wf c1 c2 c3 c4 (by simp) (df hi)
    · have e : pa * d - qa * d = (pa - qa) * d := (Int.sub_mul _ _ _).symm
      by_cases hg : pa > qa
      · have := Int.mul_pos (show 0 < pa - qa by omega) d0
        rw [leads_t (Or.inl (by omega))]
        exact ahead_bt c1 c2 c3 c4 (by simp [ha]) (by simp) (dt hg)
      · have := Int.mul_neg_of_neg_of_pos (show pa - qa < 0 by omega) d0
        rw [leads_f (by omega)]
        exact ahead_bf c1 c2 c3 c4 (by simp [ha]) (by simp) (df hg)
  · obtain ⟨m, k, h1, h2, h3, h4, h5⟩ := meeting_ok hp hq hb
    have cc := Cmp_ok hn hd h2 h3 ht h1
    have k0 : 0 < k := by have := okB_den h1; omega
    have key : (pa * d + pb * n - (qa * d + qb * n)) * k = (pb - qb) * (n * k - m * d) := by
      have e1 : (pb - qb) * (m * d) = (qa - pa) * k * d := by rw [← h4, ← Int.mul_assoc, Int.mul_comm (pb - qb) m]
      rw [Int.mul_sub, e1, Int.sub_mul, Int.add_mul, Int.add_mul, Int.sub_mul, Int.sub_mul, Int.sub_mul, ← Int.mul_assoc, ← Int.mul_assoc, Int.mul_right_comm qa k d, Int.mul_right_comm pa k d]
      omega
    have hs : (0 ≤ n * k - m * d ↔ (n * k - m * d).sign ≥ 0) := by
      rcases Int.lt_trichotomy (n * k - m * d) 0 with h | h | h
      · rw [Int.sign_eq_neg_one_of_neg h]; omega
      · rw [h]; decide
      · rw [Int.sign_eq_one_of_pos h]; omega
    generalize n * k - m * d = X at *
    generalize hP : pa * d + pb * n = P at *
    generalize hQ : qa * d + qb * n = Q at *
    by_cases hg : pb > qb
    · by_cases hx : 0 ≤ X
      · have := Int.mul_nonneg (show 0 ≤ pb - qb by omega) hx
        rw [leads_t (by
          rcases Int.lt_or_le P Q with h | h
          · have := Int.mul_neg_of_neg_of_pos (show P - Q < 0 by omega) k0; omega
          · rcases Int.lt_or_eq_of_le h with h | h
            · exact Or.inl h
            · exact Or.inr ⟨h.symm, Or.inl hg⟩)]
        exact ahead_mtt c1 c2 c3 c4 (by simp [hb]) (by simp [hb]) h5 cc (dt (hs.1 hx)) (dt hg)
      · have := Int.mul_neg_of_pos_of_neg (show 0 < pb - qb by omega) (show X < 0 by omega)
        rw [leads_f (by
          intro h
          have hle : 0 ≤ P - Q := by omega
          have := Int.mul_nonneg hle (Int.le_of_lt k0)
          omega)]
        exact ahead_mft c1 c2 c3 c4 (by simp [hb]) (by simp [hb]) h5 cc (df (fun h => hx (hs.2 h))) (dt hg)
    · by_cases hx : 0 ≤ X
      · have := Int.mul_nonneg (show 0 ≤ qb - pb by omega) hx
        have e : (pb - qb) * X = -((qb - pb) * X) := by rw [← Int.neg_mul]; congr 1; omega
        rw [leads_f (by
          intro h
          have hlt : 0 < P - Q := by omega
          have := Int.mul_pos hlt k0
          omega)]
        exact ahead_mtf c1 c2 c3 c4 (by simp [hb]) (by simp [hb]) h5 cc (dt (hs.1 hx)) (df hg)
      · have := Int.mul_pos_of_neg_of_neg (show pb - qb < 0 by omega) (show X < 0 by omega)
        rw [leads_t (by
          left
          rcases Int.lt_or_le Q P with h | h
          · exact h
          · have : (P - Q) * k ≤ 0 := by
              have := Int.mul_nonneg (show 0 ≤ Q - P by omega) (Int.le_of_lt k0)
              have e : (P - Q) * k = -((Q - P) * k) := by rw [← Int.neg_mul]; congr 1; omega
              omega
            omega)]
        exact ahead_mff c1 c2 c3 c4 (by simp [hb]) (by simp [hb]) h5 cc (df (fun h => hx (hs.2 h))) (df hg)

end Go.Proofs.Ytoheadpehomdjaa

namespace Go.Proofs.Ytoheadpehomdjaa
open Go.RowKit
theorem IsRes.uniq {p q N D E N' D' E' : Int} (h : IsRes p q N D E) (h' : IsRes p q N' D' E') (hq : q ≠ 0) : N = N' ∧ D = D' ∧ E = E' := by
  rcases h with ⟨e1, k1, i1, j1, f1⟩ | ⟨e1, n1, d1, g1⟩ <;> rcases h' with ⟨e2, k2, i2, j2, f2⟩ | ⟨e2, n2, d2, g2⟩
  · have e : N * D' = N' * D := by
      refine Int.eq_of_mul_eq_mul_right hq ?_
      rw [Int.mul_right_comm, f1, Int.mul_right_comm N' D q, f2, Int.mul_right_comm]
    obtain ⟨a, b⟩ := okB_one k1 k2 e
    exact ⟨a, b, e1.trans e2.symm⟩
  · exact absurd f1 (g2 N D k1 i1 j1)
  · exact absurd f2 (g1 N' D' k2 i2 j2)
  · exact ⟨n1.trans n2.symm, d1.trans d2.symm, e1.trans e2.symm⟩

end Go.Proofs.Ytoheadpehomdjaa

namespace Go.Proofs.Ytoheadpehomdjaa
open Go.RowKit
theorem sign_ge (X : Int) : (X.sign ≥ 0) ↔ 0 ≤ X := by
  rcases Int.lt_trichotomy X 0 with h | h | h
  · rw [Int.sign_eq_neg_one_of_neg h]; omega
  · rw [h]; decide
  · rw [Int.sign_eq_one_of_pos h]; omega
/-- From the meeting on the faster one is ahead, before it the other one. -/
theorem leads_meet {pi pa pb qi qa qb n d m k : Int} (k0 : 0 < k) (h4 : m * (pb - qb) = (qa - pa) * k) (hb : pb ≠ qb) :
    leadsB (pa * d + pb * n) (qa * d + qb * n) pb qb pi qi = (decide (pb > qb) == decide ((n * k - m * d).sign ≥ 0)) := by
  have key : (pa * d + pb * n - (qa * d + qb * n)) * k = (pb - qb) * (n * k - m * d) := by
    have e1 : (pb - qb) * (m * d) = (qa - pa) * k * d := by rw [← h4, ← Int.mul_assoc, Int.mul_comm (pb - qb) m]
    rw [Int.mul_sub, e1, Int.sub_mul, Int.add_mul, Int.add_mul, Int.sub_mul, Int.sub_mul, Int.sub_mul, ← Int.mul_assoc, ← Int.mul_assoc, Int.mul_right_comm qa k d, Int.mul_right_comm pa k d]
    omega
  have hs := sign_ge (n * k - m * d)
  generalize n * k - m * d = X at *
  generalize pa * d + pb * n = P at *
  generalize qa * d + qb * n = Q at *
  have hk : ((P - Q) * k < 0 ↔ P - Q < 0) ∧ (0 < (P - Q) * k ↔ 0 < P - Q) := by
    rcases Int.lt_trichotomy (P - Q) 0 with h | h | h
    · have := Int.mul_neg_of_neg_of_pos h k0; omega
    · rw [h]; simp
    · have := Int.mul_pos h k0; omega
  have hx : ((pb - qb) * X < 0 ↔ (pb > qb ∧ X < 0 ∨ pb < qb ∧ 0 < X)) ∧ (0 < (pb - qb) * X ↔ (pb > qb ∧ 0 < X ∨ pb < qb ∧ X < 0)) := by
    rcases Int.lt_trichotomy X 0 with h | h | h
    · rcases Int.lt_or_gt_of_ne hb with g | g
      · have := Int.mul_pos_of_neg_of_neg (show pb - qb < 0 by omega) h; omega
      · have := Int.mul_neg_of_pos_of_neg (show 0 < pb - qb by omega) h; omega
    · rw [h]; simp
    · rcases Int.lt_or_gt_of_ne hb with g | g
      · have := Int.mul_neg_of_neg_of_pos (show pb - qb < 0 by omega) h; omega
      · have := Int.mul_pos (show 0 < pb - qb by omega) h; omega
  rw [key] at hk
  by_cases g : pb > qb
  · by_cases l : 0 ≤ X
    · rw [dt g, dt (hs.2 l)]; exact leads_t (by omega)
    · rw [dt g, df (fun h => l (hs.1 h))]; exact leads_f (by omega)
  · by_cases l : 0 ≤ X
    · rw [df g, dt (hs.2 l)]; exact leads_f (by omega)
    · rw [df g, df (fun h => l (hs.1 h))]; exact leads_t (by omega)
/-- With the same B the time is of no account. -/
theorem leads_same {pi pa b qi qa n d : Int} (d0 : 0 < d) : leadsB (pa * d + b * n) (qa * d + b * n) b b pi qi = leadsB pa qa b b pi qi := by
  have e : pa * d - qa * d = (pa - qa) * d := (Int.sub_mul _ _ _).symm
  have hk : ((pa - qa) * d < 0 ↔ pa - qa < 0) ∧ (0 < (pa - qa) * d ↔ 0 < pa - qa) := by
    rcases Int.lt_trichotomy (pa - qa) 0 with h | h | h
    · have := Int.mul_neg_of_neg_of_pos h d0; omega
    · rw [h]; simp
    · have := Int.mul_pos h d0; omega
  unfold leadsB
  rw [← e] at hk
  exact decide_eq_decide.2 (by omega)
theorem checkIDs_n {pi pa pb qi qa qb : Int} (h : pi ≠ qi) : Pure Try.prog 59 #[pointV pi pa pb, pointV qi qa qb] (.int .i64 0) := ids_n (by simp [h])
/-- Both orders of two points have one meeting. -/
theorem meeting_both {pi pa pb qi qa qb : Int} (hp : okP pi pa pb = true) (hq : okP qi qa qb = true) (hb : pb ≠ qb) :
    ∃ m k, okB m k = true ∧ I64 m ∧ I64 k ∧ m * (pb - qb) = (qa - pa) * k ∧ Pure Try.prog 61 #[pointV pi pa pb, pointV qi qa qb] (ratioV m k) ∧ Pure Try.prog 61 #[pointV qi qa qb, pointV pi pa pb] (ratioV m k) := by
  obtain ⟨m, k, h1, h2, h3, h4, h5⟩ := meeting_ok hp hq hb
  obtain ⟨m', k', g1, g2, g3, g4, g5⟩ := meeting_ok hq hp (Ne.symm hb)
  have e : m * k' = m' * k := by
    refine Int.eq_of_mul_eq_mul_right (show pb - qb ≠ 0 by omega) ?_
    have a1 : m * k' * (pb - qb) = (qa - pa) * k * k' := by rw [Int.mul_right_comm, h4]
    have a2 : m' * k * (pb - qb) = -((pa - qa) * k' * k) := by
      rw [Int.mul_right_comm, ← Int.neg_mul, ← g4, ← Int.mul_neg]; congr 2; omega
    rw [a1, a2, ← Int.neg_mul, ← Int.neg_mul, Int.mul_right_comm (qa - pa) k k']
    congr 2; omega
  obtain ⟨rfl, rfl⟩ := okB_one h1 g1 e
  exact ⟨m, k, h1, h2, h3, h4, h5, g5⟩
end Go.Proofs.Ytoheadpehomdjaa

namespace Go.Proofs.Ytoheadpehomdjaa
open Go.RowKit
structure Pt where
  id : Int
  a : Int
  b : Int
abbrev ptV (p : Pt) : Value := pointV p.id p.a p.b
def ptsV : List Pt → List Value
  | [] => []
  | p :: r => .int .i64 p.id :: .int .i64 p.a :: .int .i64 p.b :: ptsV r
theorem ptsV_length : ∀ (l : List Pt), (ptsV l).length = l.length * 3
  | [] => rfl
  | p :: r => by simp [ptsV, ptsV_length r]; omega
theorem ptsV_get : ∀ {l : List Pt} {k : Nat} {p : Pt}, l[k]? = some p → (ptsV l)[k * 3]? = some (.int .i64 p.id) ∧ (ptsV l)[k * 3 + 1]? = some (.int .i64 p.a) ∧ (ptsV l)[k * 3 + 2]? = some (.int .i64 p.b)
  | [], k, p, h => by simp at h
  | q :: r, 0, p, h => by simp at h; subst h; exact ⟨rfl, rfl, rfl⟩
  | q :: r, k + 1, p, h => by
    have := ptsV_get (l := r) (k := k) (p := p) (by simpa using h)
    rw [show (k + 1) * 3 = k * 3 + 1 + 1 + 1 by omega]
    exact this
theorem ra_pt {l : List Pt} {k : Nat} {p : Pt} (h : l[k]? = some p) : rowAt (ptsV l) (0 * 3 + k * 3) [.int .i64 p.id, .int .i64 p.a, .int .i64 p.b] := by
  obtain ⟨h1, h2, h3⟩ := ptsV_get h
  intro j v hj
  rw [show 0 * 3 + k * 3 + j = k * 3 + j by omega]
  match j, hj with
  | 0, hj => cases hj; exact h1
  | 1, hj => cases hj; exact h2
  | 2, hj => cases hj; exact h3
  | j + 3, hj => simp at hj
theorem ra_id {l : List Pt} {k : Nat} {p : Pt} (h : l[k]? = some p) : rowAt (ptsV l) (0 * 3 + k * 3) [.int .i64 p.id] := by
  intro j v hj
  rw [show 0 * 3 + k * 3 + j = k * 3 + j by omega]
  match j, hj with
  | 0, hj => cases hj; exact (ptsV_get h).1
  | j + 1, hj => simp at hj

/-- Rounds, one after another. -/
theorem RunsL.rounds {P : Program} {lo fr : Nat} {c : Code} {n nb : Nat} (tm : Nat → List (Nat × SV)) (hp : Nat → List (Nat × Nat × SV)) {e : Exit} {tm2 : List (Nat × SV)} {hp2 : List (Nat × Nat × SV)} {N : Nat} :
    ∀ (d i : Nat), i + d = N → (∀ j, i ≤ j → j < N → RunsL P lo fr c n nb (tm (j + 1)) (hp (j + 1)) e tm2 hp2 → RunsL P lo fr c n nb (tm j) (hp j) e tm2 hp2) → RunsL P lo fr c n nb (tm N) (hp N) e tm2 hp2 → RunsL P lo fr c n nb (tm i) (hp i) e tm2 hp2
  | 0, i, h, _, last => by have : i = N := by omega
                           subst this; exact last
  | d + 1, i, h, step, last => step i (Nat.le_refl i) (by omega) (RunsL.rounds tm hp d (i + 1) (by omega) (fun j h1 h2 => step j (by omega) h2) last)

abbrev rowP (l : List Pt) : SV := .row 41 3 l.length (ptsV l)
abbrev fldS (b : Nat) (l : List Pt) : SV := .ag [.ls b l.length]
theorem i64_succ {k : Nat} (h : k ≤ 1000000) : Value.int .i64 (IntKind.i64.wrap ((k : Int) + 1)) = .int .i64 ((k + 1 : Nat) : Int) := by rw [wrap_i64_in (by omega) (by omega)]; rfl

end Go.Proofs.Ytoheadpehomdjaa

namespace Go.Proofs.Ytoheadpehomdjaa
open Go.RowKit
set_option maxRecDepth 100000 in
theorem cwt_err {l : List Pt} {tn td : Int} {e : Int} (hc : FnL Try.prog 22 1 [fldS 0 l] [(0, 0, rowP l)] (.pv (.int .i64 (e))) 0 []) (he : (e != 0) = true) :
    FnL Try.prog 29 1 [fldS 0 l, .pv (ratioV tn td)] [(0, 0, rowP l)] (.pv (.int .i64 (e))) 0 [] :=
  fnl_run 300 [] [.f [0] [fldS 0 l] [(0, 0, rowP l)] (.pv (.int .i64 (e))) 0 [], .t true]
     True.intro (And.intro hc (And.intro (Eq.refl (List.map (SV.ren (renU [0] 3)) [fldS 0 l])) (And.intro (reflH (renU [0] 3) [(0, 0, rowP l)]) (And.intro he True.intro)))) (by kernel_rfl)

set_option maxRecDepth 100000 in
theorem cwt_ok {l : List Pt} {tn td : Int} {e : Int} (hc : FnL Try.prog 22 1 [fldS 0 l] [(0, 0, rowP l)] (.pv (.int .i64 (0))) 0 []) (ht : Pure Try.prog 19 #[ratioV tn td] (.int .i64 (e))) :
    FnL Try.prog 29 1 [fldS 0 l, .pv (ratioV tn td)] [(0, 0, rowP l)] (.pv (.int .i64 (e))) 0 [] :=
  fnl_run 300 [] [.f [0] [fldS 0 l] [(0, 0, rowP l)] (.pv (.int .i64 (0))) 0 [], .k, .r (.int .i64 (e))]
     True.intro (And.intro hc (And.intro (Eq.refl (List.map (SV.ren (renU [0] 3)) [fldS 0 l])) (And.intro (reflH (renU [0] 3) [(0, 0, rowP l)]) (And.intro ht True.intro)))) (by kernel_rfl)

end Go.Proofs.Ytoheadpehomdjaa
