/-
  Joined: Con, Sm, Or, Rx, Cr, Ct, Fa, Fe, Fd. Conditions: none.
-/
import Derived.Test.YtpngjeloiifgnaaGreatNum
import Derived.Test.YtpngjeloiifgnaaGreatW26
import Derived.Test.YtpngjeloiifgnaaGreatW27
namespace Go.Proofs.YtpngjeloiifgnaaGreat
open Go.RowKit
theorem IsRes.one {p q N D E n d : Int} (h : IsRes p q N D E) (hq : q ≠ 0) (hk : okB n d = true) (hn : I64 n) (hd : I64 d) (he : n * q = p * d) : N = n ∧ D = d ∧ E = 0 := by
  rcases h with ⟨h1, h2, _, _, h5⟩ | ⟨_, _, _, h4⟩
  · have : N * d = n * D := by
      refine Int.eq_of_mul_eq_mul_right hq ?_
      rw [Int.mul_right_comm, h5, Int.mul_right_comm n D q, he, Int.mul_right_comm]
    obtain ⟨a1, a2⟩ := okB_one h2 hk this
    exact ⟨a1, a2, h1⟩
  · exact absurd he (h4 n d hk hn hd)
theorem okB_whole {n : Int} (h : n ≠ -9223372036854775808) : okB n 1 = true := okB_iff.2 ⟨by omega, h, by simp⟩
theorem Check_ok {n d : Int} (hn : I64 n) (hd : I64 d) (h : okB n d = true) : Pure Tryz.prog 76 #[ratioV n d] (.int .i64 0) := fun w => ckE_ok h ▸ check_any n d w hn.1 hn.2 hd.1 hd.2
theorem Check_bad {n d : Int} (hn : I64 n) (hd : I64 d) (h : ¬ okB n d = true) : Pure Tryz.prog 76 #[ratioV n d] (.int .i64 8) := fun w => ckE_bad h ▸ check_any n d w hn.1 hn.2 hd.1 hd.2
theorem RCheck_ok {n d : Int} (hn : I64 n) (hd : I64 d) (h : okB n d = true) : Pure Tryz.prog 14 #[ratioV n d] (.int .i64 0) := fun w => ckE_ok h ▸ check24_any n d w hn.1 hn.2 hd.1 hd.2
theorem Make_res {a b : Int} (ha : I64 a) (hb : I64 b) (h0 : b ≠ 0) : ∃ N D E, IsRes a b N D E ∧ Pure Tryz.prog 116 #[.int .i64 a, .int .i64 b] (.tuple #[ratioV N D, .int .i64 E]) :=
  ⟨_, _, _, mk_res h0, fun w => make17_any a b w ha hb⟩
theorem Make_ok {a b n d : Int} (ha : I64 a) (hb : I64 b) (h0 : b ≠ 0) (hk : okB n d = true) (hn : I64 n) (hd : I64 d) (he : n * b = a * d) : Pure Tryz.prog 116 #[.int .i64 a, .int .i64 b] (.tuple #[ratioV n d, .int .i64 0]) := by
  obtain ⟨N, D, E, h1, h2⟩ := Make_res ha hb h0
  obtain ⟨rfl, rfl, rfl⟩ := h1.one h0 hk hn hd he
  exact h2
theorem Cmp_ok {a b c d : Int} (ha : I64 a) (hb : I64 b) (hc : I64 c) (hd : I64 d) (h1 : okB a b = true) (h2 : okB c d = true) :
    Pure Tryz.prog 49 #[ratioV a b, ratioV c d] (.tuple #[.int .i64 (a * d - c * b).sign, .int .i64 0]) := cmp_any ha hb hc hd h1 h2
theorem Mul_res {a b c d : Int} (ha : I64 a) (hb : I64 b) (hc : I64 c) (hd : I64 d) (h1 : okB a b = true) (h2 : okB c d = true) :
    ∃ N D E, IsRes (a * c) (b * d) N D E ∧ Pure Tryz.prog 48 #[ratioV a b, ratioV c d] (.tuple #[ratioV N D, .int .i64 E]) :=
  ⟨_, _, _, muF_res h1 h2, fun w => by
    have := mul_any a b c d w ha hb hc hd
    rwa [if_pos ⟨h1, h2⟩] at this⟩
theorem Add_res {a b c d : Int} (ha : I64 a) (hb : I64 b) (hc : I64 c) (hd : I64 d) (h1 : okB a b = true) (h2 : okB c d = true) :
    ∃ N D E, IsRes (a * d + c * b) (b * d) N D E ∧ Pure Tryz.prog 47 #[ratioV a b, ratioV c d] (.tuple #[ratioV N D, .int .i64 E]) :=
  ⟨_, _, _, smF_res h1 h2, add_any ha hb hc hd h1 h2⟩
theorem Sub_res {a b c d : Int} (ha : I64 a) (hb : I64 b) (hc : I64 c) (hd : I64 d) (h1 : okB a b = true) (h2 : okB c d = true) :
    ∃ N D E, IsRes (a * d - c * b) (b * d) N D E ∧ Pure Tryz.prog 46 #[ratioV a b, ratioV c d] (.tuple #[ratioV N D, .int .i64 E]) :=
  ⟨_, _, _, by
    have := smF_res h1 (okB_neg hc.2 h2)
    rwa [Int.neg_mul] at this, sub_any ha hb hc hd h1 h2⟩
end Go.Proofs.YtpngjeloiifgnaaGreat

namespace Go.Proofs.YtpngjeloiifgnaaGreat
open Go.RowKit
set_option maxRecDepth 100000
theorem IsRes.fits {p q N D E : Int} (h : IsRes p q N D E) (hq : 0 < q) (q1 : q ≤ 9223372036854775807) (p0 : -9223372036854775807 ≤ p) (p1 : p ≤ 9223372036854775807) :
    E = 0 ∧ okB N D = true ∧ I64 N ∧ I64 D ∧ N * q = p * D := by
  rcases h with h | ⟨_, _, _, h4⟩
  · exact h
  · exfalso
    obtain ⟨g, hg⟩ : ∃ g : Nat, g = Nat.gcd p.natAbs q.natAbs := ⟨_, rfl⟩
    have g0 : 0 < g := hg ▸ Nat.gcd_pos_of_pos_right _ (by omega)
    have e1 : p.tdiv g * g = p := Int.tdiv_mul_cancel (Int.ofNat_dvd_left.2 (hg ▸ Nat.gcd_dvd_left _ _))
    have e2 : q.tdiv g * g = q := Int.tdiv_mul_cancel (Int.ofNat_dvd_left.2 (hg ▸ Nat.gcd_dvd_right _ _))
    have n1 : (p.tdiv g).natAbs = p.natAbs / g := by rw [Int.natAbs_tdiv]; rfl
    have n2 : (q.tdiv g).natAbs = q.natAbs / g := by rw [Int.natAbs_tdiv]; rfl
    have b1 : p.natAbs / g ≤ p.natAbs := Nat.div_le_self _ _
    have b2 : q.natAbs / g ≤ q.natAbs := Nat.div_le_self _ _
    have cop : Nat.gcd (p.tdiv g).natAbs (q.tdiv g).natAbs = 1 := by
      have g0' := g0
      rw [hg] at g0'
      rw [n1, n2, hg]
      exact Nat.coprime_div_gcd_div_gcd g0'
    generalize p.tdiv (g : Int) = P at *
    generalize q.tdiv (g : Int) = Q at *
    have hQ : 0 < Q := by
      rcases Int.lt_trichotomy Q 0 with h' | h' | h'
      · have := Int.mul_neg_of_neg_of_pos h' (show (0 : Int) < g by omega); omega
      · subst h'; omega
      · exact h'
    refine h4 P Q (okB_iff.2 ⟨by omega, by omega, cop⟩) (by unfold I64; omega) (by unfold I64; omega) ?_
    rw [← e1, ← e2]
    ac_rfl
theorem IsRes.congr {p q p' q' N D E : Int} (h : IsRes p q N D E) (hq : q ≠ 0) (hq' : q' ≠ 0) (e : p * q' = p' * q) : IsRes p' q' N D E := by
  have key : ∀ n d : Int, n * q = p * d ↔ n * q' = p' * d := by
    intro n d
    constructor
    · intro h
      refine Int.eq_of_mul_eq_mul_right hq ?_
      grind
    · intro h
      refine Int.eq_of_mul_eq_mul_right hq' ?_
      grind
  rcases h with ⟨h1, h2, h3, h4, h5⟩ | ⟨h1, h2, h3, h4⟩
  · exact Or.inl ⟨h1, h2, h3, h4, (key _ _).1 h5⟩
  · exact Or.inr ⟨h1, h2, h3, fun n d a1 a2 a3 a4 => h4 n d a1 a2 a3 ((key _ _).2 a4)⟩
theorem mul_bd {n k A B : Int} (h1 : n ≤ A) (h2 : -A ≤ n) (h3 : k ≤ B) (h4 : -B ≤ k) (hA : 0 ≤ A) (hB : 0 ≤ B) : -(A * B) ≤ n * k ∧ n * k ≤ A * B := by
  have e : (n * k).natAbs ≤ A.natAbs * B.natAbs := by rw [Int.natAbs_mul]; exact Nat.mul_le_mul (by omega) (by omega)
  have e2 : ((A.natAbs * B.natAbs : Nat) : Int) = A * B := by rw [Int.natCast_mul]; congr 1 <;> omega
  omega
end Go.Proofs.YtpngjeloiifgnaaGreat

namespace Go.Proofs.YtpngjeloiifgnaaGreat
open Go.RowKit
set_option maxRecDepth 100000
theorem RBoth_ok {a b c d : Int} (ha : I64 a) (hb : I64 b) (hc : I64 c) (hd : I64 d) (h1 : okB a b = true) (h2 : okB c d = true) : Pure Tryz.prog 28 #[ratioV a b, ratioV c d] (.int .i64 0) :=
  fun w => okBoth_zero h1 h2 ▸ both30_any a b c d w ha hb hc hd
theorem RBoth_bad {a b c d : Int} (ha : I64 a) (hb : I64 b) (hc : I64 c) (hd : I64 d) (h : ¬ (okB a b = true ∧ okB c d = true)) : Pure Tryz.prog 28 #[ratioV a b, ratioV c d] (.int .i64 8) :=
  fun w => okBoth_bad h ▸ both30_any a b c d w ha hb hc hd

end Go.Proofs.YtpngjeloiifgnaaGreat

namespace Go.Proofs.YtpngjeloiifgnaaGreat
open Go.RowKit
theorem RCompare_any {a b c d : Int} (ha : I64 a) (hb : I64 b) (hc : I64 c) (hd : I64 d) : Pure Tryz.prog 29 #[ratioV a b, ratioV c d] (.int .i64 (a * d - c * b).sign) := by
  have c1 := RProduct_any a d ha hd
  have c2 := RProduct_any c b hc hb
  generalize a * d = x at *
  generalize c * b = y at *
  have s1 := RSign_any x
  have s2 := RSign_any y
  have kx : x < 0 ∧ x.sign = -1 ∨ x = 0 ∧ x.sign = 0 ∨ 0 < x ∧ x.sign = 1 := by
    rcases Int.lt_trichotomy x 0 with h | h | h
    · exact Or.inl ⟨h, Int.sign_eq_neg_one_of_neg h⟩
    · exact Or.inr (Or.inl ⟨h, by rw [h]; rfl⟩)
    · exact Or.inr (Or.inr ⟨h, Int.sign_eq_one_of_pos h⟩)
  have ky : y < 0 ∧ y.sign = -1 ∨ y = 0 ∧ y.sign = 0 ∨ 0 < y ∧ y.sign = 1 := by
    rcases Int.lt_trichotomy y 0 with h | h | h
    · exact Or.inl ⟨h, Int.sign_eq_neg_one_of_neg h⟩
    · exact Or.inr (Or.inl ⟨h, by rw [h]; rfl⟩)
    · exact Or.inr (Or.inr ⟨h, Int.sign_eq_one_of_pos h⟩)
  have kd : x - y < 0 ∧ (x - y).sign = -1 ∨ x - y = 0 ∧ (x - y).sign = 0 ∨ 0 < x - y ∧ (x - y).sign = 1 := by
    rcases Int.lt_trichotomy (x - y) 0 with h | h | h
    · exact Or.inl ⟨h, Int.sign_eq_neg_one_of_neg h⟩
    · exact Or.inr (Or.inl ⟨h, by rw [h]; rfl⟩)
    · exact Or.inr (Or.inr ⟨h, Int.sign_eq_one_of_pos h⟩)
  by_cases he : x.sign = y.sign
  · by_cases hn : x.sign < 0
    · have l := RLess_any (decide (y < 0)) (decide (x < 0)) y.natAbs x.natAbs
      rw [show (x - y).sign = cmpN y.natAbs x.natAbs by unfold cmpN; split <;> (try split) <;> omega]
      exact rCompare_n c1 c2 s1 s2 (by simp [he]) (decide_t hn) l
    · have l := RLess_any (decide (x < 0)) (decide (y < 0)) x.natAbs y.natAbs
      rw [show (x - y).sign = cmpN x.natAbs y.natAbs by unfold cmpN; split <;> (try split) <;> omega]
      exact rCompare_p c1 c2 s1 s2 (by simp [he]) (decide_f hn) l
  · by_cases hl : x.sign < y.sign
    · rw [show (x - y).sign = -1 by omega]
      exact rCompare_l c1 c2 s1 s2 (by simpa using he) (decide_t hl)
    · rw [show (x - y).sign = 1 by omega]
      exact rCompare_g c1 c2 s1 s2 (by simpa using he) (decide_f hl)

end Go.Proofs.YtpngjeloiifgnaaGreat

namespace Go.Proofs.YtpngjeloiifgnaaGreat
open Go.RowKit
/-- Is a point valid? -/
def okP (n a b : Int) : Bool := decide (0 ≤ n ∧ n ≤ 65535 ∧ -1048576 ≤ a ∧ a ≤ 1048576 ∧ -1048576 ≤ b ∧ b ≤ 1048576)
theorem okP_iff {n a b : Int} : okP n a b = true ↔ 0 ≤ n ∧ n ≤ 65535 ∧ -1048576 ≤ a ∧ a ≤ 1048576 ∧ -1048576 ≤ b ∧ b ≤ 1048576 := by simp [okP]
theorem dt {p : Prop} [Decidable p] (h : p) : decide p = true := by simp [h]
theorem df {p : Prop} [Decidable p] (h : ¬ p) : decide p = false := by simp [h]
theorem Check02_ok {n a b : Int} (h : okP n a b = true) : Pure Tryz.prog 52 #[pointV n a b] (.int .i64 0) := by
  have h' := okP_iff.1 h
  exact ck_ok (df (by omega)) (df (by omega)) (dt (by omega)) (dt (by omega)) (dt (by omega)) (dt (by omega))
theorem RCheck02_ok {n a b : Int} (h : okP n a b = true) : Pure Tryz.prog 62 #[pointV n a b] (.int .i64 0) := by
  have h' := okP_iff.1 h
  exact rck_ok (df (by omega)) (df (by omega)) (df (by omega)) (df (by omega)) (df (by omega)) (df (by omega))
theorem Check02_bad {n a b : Int} (h : ¬ okP n a b = true) : Pure Tryz.prog 52 #[pointV n a b] (.int .i64 8) := by
  rw [okP_iff] at h
  by_cases h1 : n < 0
  · exact ck_i0 (dt h1)
  by_cases h2 : n > 65535
  · exact ck_i1 (df h1) (dt h2)
  by_cases h3 : -1048576 ≤ a
  · by_cases h4 : a ≤ 1048576
    · by_cases h5 : -1048576 ≤ b
      · exact ck_bh (df h1) (df h2) (dt h3) (dt h4) (dt h5) (df (by omega))
      · exact ck_bl (df h1) (df h2) (dt h3) (dt h4) (df h5)
    · exact ck_ah (df h1) (df h2) (dt h3) (df h4)
  · exact ck_al (df h1) (df h2) (df h3)
theorem RCheck02_bad {n a b : Int} (h : ¬ okP n a b = true) : Pure Tryz.prog 62 #[pointV n a b] (.int .i64 8) := by
  rw [okP_iff] at h
  by_cases h1 : n < 0
  · exact rck_0 (dt h1)
  by_cases h2 : n > 65535
  · exact rck_1 (df h1) (dt h2)
  by_cases h3 : a < -1048576
  · exact rck_2 (df h1) (df h2) (dt h3)
  by_cases h4 : a > 1048576
  · exact rck_3 (df h1) (df h2) (df h3) (dt h4)
  by_cases h5 : b < -1048576
  · exact rck_4 (df h1) (df h2) (df h3) (df h4) (dt h5)
  · exact rck_5 (df h1) (df h2) (df h3) (df h4) (df h5) (dt (by omega))
/-- Ahead, by the places over the denominator. -/
def leadsB (P Q pb qb pi qi : Int) : Bool := decide (P > Q ∨ P = Q ∧ (pb > qb ∨ pb = qb ∧ pi < qi))
theorem leads_t {P Q pb qb pi qi : Int} (h : P > Q ∨ P = Q ∧ (pb > qb ∨ pb = qb ∧ pi < qi)) : leadsB P Q pb qb pi qi = true := dt h
theorem leads_f {P Q pb qb pi qi : Int} (h : ¬ (P > Q ∨ P = Q ∧ (pb > qb ∨ pb = qb ∧ pi < qi))) : leadsB P Q pb qb pi qi = false := df h

theorem meeting_ok {pi pa pb qi qa qb : Int} (hp : okP pi pa pb = true) (hq : okP qi qa qb = true) (hb : pb ≠ qb) :
    ∃ m n, okB m n = true ∧ I64 m ∧ I64 n ∧ m * (pb - qb) = (qa - pa) * n ∧ Pure Tryz.prog 147 #[pointV pi pa pb, pointV qi qa qb] (ratioV m n) := by
  have hp' := okP_iff.1 hp
  have hq' := okP_iff.1 hq
  obtain ⟨N, D, E, hr, hm⟩ := Make_res (a := qa - pa) (b := pb - qb) (by unfold I64; omega) (by unfold I64; omega) (by omega)
  have key : E = 0 ∧ okB N D = true ∧ I64 N ∧ I64 D ∧ N * (pb - qb) = (qa - pa) * D := by
    by_cases hs : 0 < pb - qb
    · exact hr.fits hs (by omega) (by omega) (by omega)
    · have h2 := hr.congr (p' := -(qa - pa)) (q' := -(pb - qb)) (by omega) (by omega) (by rw [Int.mul_neg, Int.neg_mul])
      obtain ⟨e1, e2, e3, e4, e5⟩ := h2.fits (by omega) (by omega) (by omega) (by omega)
      refine ⟨e1, e2, e3, e4, ?_⟩
      rw [Int.mul_neg, Int.neg_mul] at e5
      omega
  obtain ⟨rfl, k1, k2, k3, k4⟩ := key
  exact ⟨N, D, k1, k2, k3, k4, meeting_path (by rw [wrap_i64_in (by omega) (by omega)]) (by rw [wrap_i64_in (by omega) (by omega)]) hm⟩

theorem Ahead_ok {pi pa pb qi qa qb n d : Int} (hn : I64 n) (hd : I64 d) (hp : okP pi pa pb = true) (hq : okP qi qa qb = true) (ht : okB n d = true) (hij : pi ≠ qi) :
    Pure Tryz.prog 90 #[pointV pi pa pb, pointV qi qa qb, ratioV n d] (.tuple #[.bool (leadsB (pa * d + pb * n) (qa * d + qb * n) pb qb pi qi), .int .i64 0]) := by
  have c1 := Check02_ok hp
  have c2 := Check02_ok hq
  have c3 := Check_ok hn hd ht
  have c4 : Pure Tryz.prog 136 #[pointV pi pa pb, pointV qi qa qb] (.int .i64 0) := ids_n (by simp [hij])
  have d0 : 0 < d := by have := okB_den ht; omega
  by_cases hb : pb = qb
  · subst hb
    by_cases ha : pa = qa
    · subst ha
      by_cases hi : pi < qi
      · rw [leads_t (Or.inr ⟨rfl, Or.inr ⟨rfl, hi⟩⟩)]
        exact ahead_wt c1 c2 c3 c4 (by simp) (dt hi)
      · rw [leads_f (by omega)]
        exact ahead_wf c1 c2 c3 c4 (by simp) (df hi)
    · have e : pa * d - qa * d = (pa - qa) * d := (Int.sub_mul _ _ _).symm
      by_cases hg : pa > qa
      · have := Int.mul_pos (show 0 < pa - qa by omega) d0
        rw [leads_t (Or.inl (by omega))]
        exact ahead_bt c1 c2 c3 c4 (by simp [ha]) (by simp) (dt hg)
      · have := Int.mul_neg_of_neg_of_pos (show pa - qa < 0 by omega) d0
        rw [leads_f (by omega)]
        exact ahead_bf c1 c2 c3 c4 (by simp [ha]) (by simp) (df hg)
  · obtain ⟨m, k, h1, h2, h3, h4, h5⟩ := meeting_ok hp hq hb
    have cc := Cmp_ok hn hd h2 h3 ht h1
    have k0 : 0 < k := by have := okB_den h1; omega
    have key : (pa * d + pb * n - (qa * d + qb * n)) * k = (pb - qb) * (n * k - m * d) := by
      have e1 : (pb - qb) * (m * d) = (qa - pa) * k * d := by rw [← h4, ← Int.mul_assoc, Int.mul_comm (pb - qb) m]
      rw [Int.mul_sub, e1, Int.sub_mul, Int.add_mul, Int.add_mul, Int.sub_mul, Int.sub_mul, Int.sub_mul, ← Int.mul_assoc, ← Int.mul_assoc, Int.mul_right_comm qa k d, Int.mul_right_comm pa k d]
      omega
    have hs : (0 ≤ n * k - m * d ↔ (n * k - m * d).sign ≥ 0) := by
      rcases Int.lt_trichotomy (n * k - m * d) 0 with h | h | h
      · rw [Int.sign_eq_neg_one_of_neg h]; omega
      · rw [h]; decide
      · rw [Int.sign_eq_one_of_pos h]; omega
    generalize n * k - m * d = X at *
    generalize hP : pa * d + pb * n = P at *
    generalize hQ : qa * d + qb * n = Q at *
    by_cases hg : pb > qb
    · by_cases hx : 0 ≤ X
      · have := Int.mul_nonneg (show 0 ≤ pb - qb by omega) hx
        rw [leads_t (by
          rcases Int.lt_or_le P Q with h | h
          · have := Int.mul_neg_of_neg_of_pos (show P - Q < 0 by omega) k0; omega
          · rcases Int.lt_or_eq_of_le h with h | h
            · exact Or.inl h
            · exact Or.inr ⟨h.symm, Or.inl hg⟩)]
        exact ahead_mtt c1 c2 c3 c4 (by simp [hb]) (by simp [hb]) h5 cc (dt (hs.1 hx)) (dt hg)
      · have := Int.mul_neg_of_pos_of_neg (show 0 < pb - qb by omega) (show X < 0 by omega)
        rw [leads_f (by
          intro h
          have hle : 0 ≤ P - Q := by omega
          have := Int.mul_nonneg hle (Int.le_of_lt k0)
          omega)]
        exact ahead_mft c1 c2 c3 c4 (by simp [hb]) (by simp [hb]) h5 cc (df (fun h => hx (hs.2 h))) (dt hg)
    · by_cases hx : 0 ≤ X
      · have := Int.mul_nonneg (show 0 ≤ qb - pb by omega) hx
        have e : (pb - qb) * X = -((qb - pb) * X) := by rw [← Int.neg_mul]; congr 1; omega
        rw [leads_f (by
          intro h
          have hlt : 0 < P - Q := by omega
          have := Int.mul_pos hlt k0
          omega)]
        exact ahead_mtf c1 c2 c3 c4 (by simp [hb]) (by simp [hb]) h5 cc (dt (hs.1 hx)) (df hg)
      · have := Int.mul_pos_of_neg_of_neg (show pb - qb < 0 by omega) (show X < 0 by omega)
        rw [leads_t (by
          left
          rcases Int.lt_or_le Q P with h | h
          · exact h
          · have : (P - Q) * k ≤ 0 := by
              have := Int.mul_nonneg (show 0 ≤ Q - P by omega) (Int.le_of_lt k0)
              have e : (P - Q) * k = -((Q - P) * k) := by rw [← Int.neg_mul]; congr 1; omega
              omega
            omega)]
        exact ahead_mff c1 c2 c3 c4 (by simp [hb]) (by simp [hb]) h5 cc (df (fun h => hx (hs.2 h))) (df hg)

end Go.Proofs.YtpngjeloiifgnaaGreat

namespace Go.Proofs.YtpngjeloiifgnaaGreat
open Go.RowKit
theorem sign_ge (X : Int) : (X.sign ≥ 0) ↔ 0 ≤ X := by
  rcases Int.lt_trichotomy X 0 with h | h | h
  · rw [Int.sign_eq_neg_one_of_neg h]; omega
  · rw [h]; decide
  · rw [Int.sign_eq_one_of_pos h]; omega
/-- From the meeting on the faster one is ahead, before it the other one. -/
theorem leads_meet {pi pa pb qi qa qb n d m k : Int} (k0 : 0 < k) (h4 : m * (pb - qb) = (qa - pa) * k) (hb : pb ≠ qb) :
    leadsB (pa * d + pb * n) (qa * d + qb * n) pb qb pi qi = (decide (pb > qb) == decide ((n * k - m * d).sign ≥ 0)) := by
  have key : (pa * d + pb * n - (qa * d + qb * n)) * k = (pb - qb) * (n * k - m * d) := by
    have e1 : (pb - qb) * (m * d) = (qa - pa) * k * d := by rw [← h4, ← Int.mul_assoc, Int.mul_comm (pb - qb) m]
    rw [Int.mul_sub, e1, Int.sub_mul, Int.add_mul, Int.add_mul, Int.sub_mul, Int.sub_mul, Int.sub_mul, ← Int.mul_assoc, ← Int.mul_assoc, Int.mul_right_comm qa k d, Int.mul_right_comm pa k d]
    omega
  have hs := sign_ge (n * k - m * d)
  generalize n * k - m * d = X at *
  generalize pa * d + pb * n = P at *
  generalize qa * d + qb * n = Q at *
  have hk : ((P - Q) * k < 0 ↔ P - Q < 0) ∧ (0 < (P - Q) * k ↔ 0 < P - Q) := by
    rcases Int.lt_trichotomy (P - Q) 0 with h | h | h
    · have := Int.mul_neg_of_neg_of_pos h k0; omega
    · rw [h]; simp
    · have := Int.mul_pos h k0; omega
  have hx : ((pb - qb) * X < 0 ↔ (pb > qb ∧ X < 0 ∨ pb < qb ∧ 0 < X)) ∧ (0 < (pb - qb) * X ↔ (pb > qb ∧ 0 < X ∨ pb < qb ∧ X < 0)) := by
    rcases Int.lt_trichotomy X 0 with h | h | h
    · rcases Int.lt_or_gt_of_ne hb with g | g
      · have := Int.mul_pos_of_neg_of_neg (show pb - qb < 0 by omega) h; omega
      · have := Int.mul_neg_of_pos_of_neg (show 0 < pb - qb by omega) h; omega
    · rw [h]; simp
    · rcases Int.lt_or_gt_of_ne hb with g | g
      · have := Int.mul_neg_of_neg_of_pos (show pb - qb < 0 by omega) h; omega
      · have := Int.mul_pos (show 0 < pb - qb by omega) h; omega
  rw [key] at hk
  by_cases g : pb > qb
  · by_cases l : 0 ≤ X
    · rw [dt g, dt (hs.2 l)]; exact leads_t (by omega)
    · rw [dt g, df (fun h => l (hs.1 h))]; exact leads_f (by omega)
  · by_cases l : 0 ≤ X
    · rw [df g, dt (hs.2 l)]; exact leads_f (by omega)
    · rw [df g, df (fun h => l (hs.1 h))]; exact leads_t (by omega)
/-- With the same B the time is of no account. -/
theorem leads_same {pi pa b qi qa n d : Int} (d0 : 0 < d) : leadsB (pa * d + b * n) (qa * d + b * n) b b pi qi = leadsB pa qa b b pi qi := by
  have e : pa * d - qa * d = (pa - qa) * d := (Int.sub_mul _ _ _).symm
  have hk : ((pa - qa) * d < 0 ↔ pa - qa < 0) ∧ (0 < (pa - qa) * d ↔ 0 < pa - qa) := by
    rcases Int.lt_trichotomy (pa - qa) 0 with h | h | h
    · have := Int.mul_neg_of_neg_of_pos h d0; omega
    · rw [h]; simp
    · have := Int.mul_pos h d0; omega
  unfold leadsB
  rw [← e] at hk
  exact decide_eq_decide.2 (by omega)
theorem checkIDs_n {pi pa pb qi qa qb : Int} (h : pi ≠ qi) : Pure Tryz.prog 136 #[pointV pi pa pb, pointV qi qa qb] (.int .i64 0) := ids_n (by simp [h])
theorem Meet_same {pi pa qi qa b : Int} (hp : okP pi pa b = true) (hq : okP qi qa b = true) (h : pi ≠ qi) : Pure Tryz.prog 161 #[pointV pi pa b, pointV qi qa b] (.tuple #[ratioV 0 0, .int .i64 6]) :=
  meet_same (Check02_ok hp) (Check02_ok hq) (checkIDs_n h) (by simp)
theorem Meet_diff {pi pa pb qi qa qb m k : Int} (hp : okP pi pa pb = true) (hq : okP qi qa qb = true) (h : pi ≠ qi) (hb : pb ≠ qb) (hm : Pure Tryz.prog 147 #[pointV pi pa pb, pointV qi qa qb] (ratioV m k)) :
    Pure Tryz.prog 161 #[pointV pi pa pb, pointV qi qa qb] (.tuple #[ratioV m k, .int .i64 0]) :=
  meet_diff (Check02_ok hp) (Check02_ok hq) (checkIDs_n h) (by simp [hb]) hm
/-- Both orders of two points have one meeting. -/
theorem meeting_both {pi pa pb qi qa qb : Int} (hp : okP pi pa pb = true) (hq : okP qi qa qb = true) (hb : pb ≠ qb) :
    ∃ m k, okB m k = true ∧ I64 m ∧ I64 k ∧ m * (pb - qb) = (qa - pa) * k ∧ Pure Tryz.prog 147 #[pointV pi pa pb, pointV qi qa qb] (ratioV m k) ∧ Pure Tryz.prog 147 #[pointV qi qa qb, pointV pi pa pb] (ratioV m k) := by
  obtain ⟨m, k, h1, h2, h3, h4, h5⟩ := meeting_ok hp hq hb
  obtain ⟨m', k', g1, g2, g3, g4, g5⟩ := meeting_ok hq hp (Ne.symm hb)
  have e : m * k' = m' * k := by
    refine Int.eq_of_mul_eq_mul_right (show pb - qb ≠ 0 by omega) ?_
    have a1 : m * k' * (pb - qb) = (qa - pa) * k * k' := by rw [Int.mul_right_comm, h4]
    have a2 : m' * k * (pb - qb) = -((pa - qa) * k' * k) := by
      rw [Int.mul_right_comm, ← Int.neg_mul, ← g4, ← Int.mul_neg]; congr 2; omega
    rw [a1, a2, ← Int.neg_mul, ← Int.neg_mul, Int.mul_right_comm (qa - pa) k k']
    congr 2; omega
  obtain ⟨rfl, rfl⟩ := okB_one h1 g1 e
  exact ⟨m, k, h1, h2, h3, h4, h5, g5⟩
end Go.Proofs.YtpngjeloiifgnaaGreat

namespace Go.Proofs.YtpngjeloiifgnaaGreat
open Go.RowKit
structure Pt where
  id : Int
  a : Int
  b : Int
abbrev ptV (p : Pt) : Value := pointV p.id p.a p.b
def ptsV : List Pt → List Value
  | [] => []
  | p :: r => .int .i64 p.id :: .int .i64 p.a :: .int .i64 p.b :: ptsV r
theorem ptsV_append : ∀ (a b : List Pt), ptsV (a ++ b) = ptsV a ++ ptsV b
  | [], _ => rfl
  | p :: r, b => by simp [ptsV, ptsV_append r b]
theorem ptsV_length : ∀ (l : List Pt), (ptsV l).length = l.length * 3
  | [] => rfl
  | p :: r => by simp [ptsV, ptsV_length r]; omega
theorem ptsV_get : ∀ {l : List Pt} {k : Nat} {p : Pt}, l[k]? = some p → (ptsV l)[k * 3]? = some (.int .i64 p.id) ∧ (ptsV l)[k * 3 + 1]? = some (.int .i64 p.a) ∧ (ptsV l)[k * 3 + 2]? = some (.int .i64 p.b)
  | [], k, p, h => by simp at h
  | q :: r, 0, p, h => by simp at h; subst h; exact ⟨rfl, rfl, rfl⟩
  | q :: r, k + 1, p, h => by
    have := ptsV_get (l := r) (k := k) (p := p) (by simpa using h)
    rw [show (k + 1) * 3 = k * 3 + 1 + 1 + 1 by omega]
    exact this
theorem ra_pt {l : List Pt} {k : Nat} {p : Pt} (h : l[k]? = some p) : rowAt (ptsV l) (0 * 3 + k * 3) [.int .i64 p.id, .int .i64 p.a, .int .i64 p.b] := by
  obtain ⟨h1, h2, h3⟩ := ptsV_get h
  intro j v hj
  rw [show 0 * 3 + k * 3 + j = k * 3 + j by omega]
  match j, hj with
  | 0, hj => cases hj; exact h1
  | 1, hj => cases hj; exact h2
  | 2, hj => cases hj; exact h3
  | j + 3, hj => simp at hj
theorem ra_id {l : List Pt} {k : Nat} {p : Pt} (h : l[k]? = some p) : rowAt (ptsV l) (0 * 3 + k * 3) [.int .i64 p.id] := by
  intro j v hj
  rw [show 0 * 3 + k * 3 + j = k * 3 + j by omega]
  match j, hj with
  | 0, hj => cases hj; exact (ptsV_get h).1
  | j + 1, hj => simp at hj

/-- Rounds, one after another. -/
theorem RunsL.rounds {P : Program} {lo fr : Nat} {c : Code} {n nb : Nat} (tm : Nat → List (Nat × SV)) (hp : Nat → List (Nat × Nat × SV)) {e : Exit} {tm2 : List (Nat × SV)} {hp2 : List (Nat × Nat × SV)} {N : Nat} :
    ∀ (d i : Nat), i + d = N → (∀ j, i ≤ j → j < N → RunsL P lo fr c n nb (tm (j + 1)) (hp (j + 1)) e tm2 hp2 → RunsL P lo fr c n nb (tm j) (hp j) e tm2 hp2) → RunsL P lo fr c n nb (tm N) (hp N) e tm2 hp2 → RunsL P lo fr c n nb (tm i) (hp i) e tm2 hp2
  | 0, i, h, _, last => by have : i = N := by omega
                           subst this; exact last
  | d + 1, i, h, step, last => step i (Nat.le_refl i) (by omega) (RunsL.rounds tm hp d (i + 1) (by omega) (fun j h1 h2 => step j (by omega) h2) last)

abbrev rowP (l : List Pt) : SV := .row 68 3 l.length (ptsV l)
abbrev fldS (b : Nat) (l : List Pt) : SV := .ag [.ls b l.length]
theorem i64_succ {k : Nat} (h : k ≤ 1000000) : Value.int .i64 (IntKind.i64.wrap ((k : Int) + 1)) = .int .i64 ((k + 1 : Nat) : Int) := by rw [wrap_i64_in (by omega) (by omega)]; rfl

set_option maxRecDepth 100000 in
theorem great_t {l : List Pt} (h1 : decide ((l.length : Int) > 16) = true) (h2 : decide ((l.length : Int) < 64) = true) : FnL Tryz.prog 5 1 [fldS 0 l] [(0, 0, rowP l)] (.pv (.bool true)) 0 [] :=
  fnl_run 200 [] [.t true, .t true] True.intro (And.intro h1 (And.intro h2 True.intro)) (by kernel_rfl)
set_option maxRecDepth 100000 in
theorem great_f {l : List Pt} (h1 : decide ((l.length : Int) > 16) = false) (h2 : decide ((l.length : Int) > 70) = false) : FnL Tryz.prog 5 1 [fldS 0 l] [(0, 0, rowP l)] (.pv (.bool false)) 0 [] :=
  fnl_run 200 [] [.t false, .t false] True.intro (And.intro h1 (And.intro h2 True.intro)) (by kernel_rfl)
set_option maxRecDepth 100000 in
theorem great_t2 {l : List Pt} (h1 : decide ((l.length : Int) > 16) = true) (h2 : decide ((l.length : Int) < 64) = false) (h3 : decide ((l.length : Int) > 70) = true) : FnL Tryz.prog 5 1 [fldS 0 l] [(0, 0, rowP l)] (.pv (.bool true)) 0 [] :=
  fnl_run 200 [] [.t true, .t false, .t true] True.intro (And.intro h1 (And.intro h2 (And.intro h3 True.intro))) (by kernel_rfl)
set_option maxRecDepth 100000 in
theorem great_f2 {l : List Pt} (h1 : decide ((l.length : Int) > 16) = true) (h2 : decide ((l.length : Int) < 64) = false) (h3 : decide ((l.length : Int) > 70) = false) : FnL Tryz.prog 5 1 [fldS 0 l] [(0, 0, rowP l)] (.pv (.bool false)) 0 [] :=
  fnl_run 200 [] [.t true, .t false, .t false] True.intro (And.intro h1 (And.intro h2 (And.intro h3 True.intro))) (by kernel_rfl)

theorem twin_row (l : List Pt) : some (SV.row 68 3 (0 + l.length) ([] ++ ptsV l)) = some (rowP l) := by rw [Nat.zero_add, List.nil_append]
theorem ptsV_drop : ∀ (l : List Pt) (k : Nat), (ptsV l).drop (k * 3) = ptsV (l.drop k)
  | l, 0 => by simp
  | [], k + 1 => by simp [ptsV]
  | p :: r, k + 1 => by rw [show (k + 1) * 3 = k * 3 + 1 + 1 + 1 by omega, List.drop_succ_cons]; exact ptsV_drop r k
theorem ptsV_take : ∀ (l : List Pt) (k : Nat), (ptsV l).take (k * 3) = ptsV (l.take k)
  | l, 0 => by simp [ptsV]
  | [], k + 1 => by simp [ptsV]
  | p :: r, k + 1 => by rw [show (k + 1) * 3 = k * 3 + 1 + 1 + 1 by omega, List.take_succ_cons]; exact congrArg (fun z => Value.int .i64 p.id :: .int .i64 p.a :: .int .i64 p.b :: z) (ptsV_take r k)
theorem part_lo (l : List Pt) (k : Nat) : ((ptsV l).drop ((0 + 0) * 3)).take (k * 3) = ptsV (l.take k) := by rw [Nat.zero_add, ptsV_drop, ptsV_take]; rfl
theorem part_hi (l : List Pt) (k : Nat) : ((ptsV l).drop ((0 + k) * 3)).take ((l.length - k) * 3) = ptsV (l.drop k) := by rw [Nat.zero_add, ptsV_drop, ptsV_take, List.take_of_length_le (by simp)]
theorem put_len (l : List Pt) (k : Nat) (p : Pt) (h : k ≤ l.length) : (l.take k ++ p :: l.drop k).length = 0 + k + 1 + (l.length - k) := by simp; omega
theorem put_tu (b : Nat) (l : List Pt) (k : Nat) (p : Pt) (h : k ≤ l.length) : SV.tu [.ag [.ls b (0 + k + 1 + (l.length - k))], .one (.pv (.int .i64 0))] = (SV.tu [.ag [.ls 1 (l.take k ++ p :: l.drop k).length], .one (.pv (.int .i64 0))]).ren (renN [(1, b)]) := by rw [put_len l k p h]; rfl
theorem put_row (l : List Pt) (k : Nat) (p : Pt) (h : k ≤ l.length) : some (SV.row 68 3 (0 + k + 1 + (l.length - k)) ([] ++ ((ptsV l).drop ((0 + 0) * 3)).take (k * 3) ++ [.int .i64 p.id, .int .i64 p.a, .int .i64 p.b] ++ ((ptsV l).drop ((0 + k) * 3)).take ((l.length - k) * 3))) = some (rowP (l.take k ++ p :: l.drop k)) := by
  rw [part_lo, part_hi, rowP, put_len l k p h, ptsV_append]; simp [ptsV]
def idsV (l : List Int) : List Value := l.map fun x => .int .i64 x
abbrev rowI (l : List Int) : SV := .row 3 1 l.length (idsV l)
theorem ra_int {l : List Int} {k : Nat} {x : Int} (h : l[k]? = some x) : rowAt (idsV l) (0 * 1 + k * 1) [.int .i64 x] := by
  intro j v hj
  match j, hj with
  | 0, hj => cases hj; simp [idsV, h]
  | j + 1, hj => simp at hj
theorem seti : ∀ (l : List Int) (k : Nat) (x : Int), k < l.length → idsV (l.set k x) = setL (idsV l) k [.int .i64 x]
  | [], k, x, h => by simp at h
  | y :: r, 0, x, _ => rfl
  | y :: r, k + 1, x, h => by
    have := seti r k x (by simpa using h)
    simp only [idsV, List.set_cons_succ, List.map_cons] at this ⊢
    rw [this]
    simp [setL, Nat.add_right_comm]
theorem seti_row (l : List Int) (k : Nat) (x : Int) (h : k < l.length) : idsV (l.set k x) = setL (idsV l) (0 * 1 + k * 1) [.int .i64 x] := by
  rw [Nat.zero_mul, Nat.zero_add, Nat.mul_one]; exact seti l k x h
theorem seti_in (l : List Int) (k : Nat) (h : k < l.length) : 0 * 1 + k * 1 + 1 ≤ (idsV l).length := by simp [idsV]; omega
theorem rep_ids : ∀ n : Nat, repL [Value.int .i64 0] n = idsV (List.replicate n 0)
  | 0 => rfl
  | n + 1 => by rw [repL, rep_ids n]; rfl
theorem rep_row (n : Nat) : some (SV.row 3 1 n (repL [Value.int .i64 0] n)) = some (SV.row 3 1 n (idsV (List.replicate n 0))) := by rw [rep_ids]
theorem clone_x (l : List Pt) : SV.ls 2 (0 + l.length) = (SV.ls 1 l.length).ren (renN [(1, 2)]) := by rw [Nat.zero_add]; rfl
end Go.Proofs.YtpngjeloiifgnaaGreat

namespace Go.Proofs.YtpngjeloiifgnaaGreat
open Go.RowKit
set_option maxRecDepth 100000 in
theorem new_path  :
    FnL Tryz.prog 31 0 [] [] (.pv (.agg #[.slice none 0 0])) 0 [] :=
  fnl_run 300 [] []
     True.intro True.intro (by kernel_rfl)

set_option maxRecDepth 100000 in
theorem sid_next {l m : List Int} {k : Nat} {x y : Int} (hk : l[k]? = some x) (hin : 0 ≤ (k : Int) ∧ (k : Int) < (l.length : Int)) (hq : m[k]? = some y) (hin2 : 0 ≤ (k : Int) ∧ (k : Int) < (m.length : Int)) (hlt : decide ((k : Int) < (l.length : Int)) = true) (hne : (!(x == y)) = false) (hs : Value.int .i64 (IntKind.i64.wrap ((k : Int) + 1)) = .int .i64 (((k + 1 : Nat) : Int))) {e : Exit} {tm2 : List (Nat × SV)} {hp2 : List (Nat × Nat × SV)}
    (r : RunsL Tryz.prog 2 2 (loopOf Tryz.prog 17 0) 26 2 ([(0, .ls 0 l.length), (1, .ls 1 m.length), (5, .pv (.int .i64 ((k + 1 : Nat) : Int)))]) ([(0, 0, rowI l), (1, 0, rowI m)]) e tm2 hp2) : RunsL Tryz.prog 2 2 (loopOf Tryz.prog 17 0) 26 2 ([(0, .ls 0 l.length), (1, .ls 1 m.length), (5, .pv (.int .i64 (k : Int)))]) ([(0, 0, rowI l), (1, 0, rowI m)]) e tm2 hp2 :=
  RunsL.next [] 300 [.t true, .r (Value.int .i64 x), .r (Value.int .i64 y), .t false, .r (.int .i64 (((k + 1 : Nat) : Int)))]
    (round_of (And.intro hlt (And.intro hin (And.intro (ra_int hk) (And.intro hin2 (And.intro (ra_int hq) (And.intro hne (And.intro hs True.intro))))))) (by kernel_rfl)) r

set_option maxRecDepth 100000 in
theorem sid_end {l m : List Int} {k : Nat} (hge : decide ((k : Int) < (l.length : Int)) = false) : RunsL Tryz.prog 2 2 (loopOf Tryz.prog 17 0) 26 2 ([(0, .ls 0 l.length), (1, .ls 1 m.length), (5, .pv (.int .i64 (k : Int)))]) ([(0, 0, rowI l), (1, 0, rowI m)]) (.exit 0) ([]) ([]) :=
  RunsL.stop [] 300 [.t false] (fun h => by cases h)
    (round_of (And.intro hge True.intro) (by kernel_rfl))

set_option maxRecDepth 100000 in
theorem sid_yes {l m : List Int} (hl : (!((l.length : Int) == (m.length : Int))) = false) (r0 : RunsL Tryz.prog 2 2 (loopOf Tryz.prog 17 0) 26 2 ([(0, .ls 0 l.length), (1, .ls 1 m.length), (5, .pv (.int .i64 ((0 : Nat) : Int)))]) ([(0, 0, rowI l), (1, 0, rowI m)]) (.exit 0) ([]) ([])) :
    FnL Tryz.prog 17 2 [.ls 0 l.length, .ls 1 m.length] [(0, 0, rowI l), (1, 0, rowI m)] (.pv (.bool true)) 0 [] :=
  fnl_run 300 [] [.t false, .l (.exit 0) ([(0, .ls 0 l.length), (1, .ls 1 m.length), (5, .pv (.int .i64 ((0 : Nat) : Int)))]) ([(0, 0, rowI l), (1, 0, rowI m)]) ([]) ([])]
     True.intro (And.intro hl (And.intro (reflT (renN []) ([(0, .ls 0 l.length), (1, .ls 1 m.length), (5, .pv (.int .i64 ((0 : Nat) : Int)))])) (And.intro (reflH (renN []) ([(0, 0, rowI l), (1, 0, rowI m)])) (And.intro r0 True.intro)))) (by kernel_rfl)

end Go.Proofs.YtpngjeloiifgnaaGreat

namespace Go.Proofs.YtpngjeloiifgnaaGreat
open Go.RowKit
set_option maxRecDepth 100000 in
theorem cwp_err {l : List Pt} {pi pa pb : Int} {e : Int} (hc : FnL Tryz.prog 20 1 [fldS 0 l] [(0, 0, rowP l)] (.pv (.int .i64 (e))) 0 []) (he : (e != 0) = true) :
    FnL Tryz.prog 71 1 [fldS 0 l, .pv (pointV pi pa pb)] [(0, 0, rowP l)] (.pv (.int .i64 (e))) 0 [] :=
  fnl_run 300 [] [.f [0] [fldS 0 l] [(0, 0, rowP l)] (.pv (.int .i64 (e))) 0 [], .t true]
     True.intro (And.intro hc (And.intro (Eq.refl (List.map (SV.ren (renU [0] 3)) [fldS 0 l])) (And.intro (reflH (renU [0] 3) [(0, 0, rowP l)]) (And.intro he True.intro)))) (by kernel_rfl)

set_option maxRecDepth 100000 in
theorem cwp_ok {l : List Pt} {pi pa pb : Int} {e : Int} (hc : FnL Tryz.prog 20 1 [fldS 0 l] [(0, 0, rowP l)] (.pv (.int .i64 (0))) 0 []) (hp : Pure Tryz.prog 52 #[pointV pi pa pb] (.int .i64 (e))) :
    FnL Tryz.prog 71 1 [fldS 0 l, .pv (pointV pi pa pb)] [(0, 0, rowP l)] (.pv (.int .i64 (e))) 0 [] :=
  fnl_run 300 [] [.f [0] [fldS 0 l] [(0, 0, rowP l)] (.pv (.int .i64 (0))) 0 [], .k, .r (.int .i64 (e))]
     True.intro (And.intro hc (And.intro (Eq.refl (List.map (SV.ren (renU [0] 3)) [fldS 0 l])) (And.intro (reflH (renU [0] 3) [(0, 0, rowP l)]) (And.intro hp True.intro)))) (by kernel_rfl)

set_option maxRecDepth 100000 in
theorem cwt_err {l : List Pt} {tn td : Int} {e : Int} (hc : FnL Tryz.prog 20 1 [fldS 0 l] [(0, 0, rowP l)] (.pv (.int .i64 (e))) 0 []) (he : (e != 0) = true) :
    FnL Tryz.prog 38 1 [fldS 0 l, .pv (ratioV tn td)] [(0, 0, rowP l)] (.pv (.int .i64 (e))) 0 [] :=
  fnl_run 300 [] [.f [0] [fldS 0 l] [(0, 0, rowP l)] (.pv (.int .i64 (e))) 0 [], .t true]
     True.intro (And.intro hc (And.intro (Eq.refl (List.map (SV.ren (renU [0] 3)) [fldS 0 l])) (And.intro (reflH (renU [0] 3) [(0, 0, rowP l)]) (And.intro he True.intro)))) (by kernel_rfl)

set_option maxRecDepth 100000 in
theorem cwt_ok {l : List Pt} {tn td : Int} {e : Int} (hc : FnL Tryz.prog 20 1 [fldS 0 l] [(0, 0, rowP l)] (.pv (.int .i64 (0))) 0 []) (ht : Pure Tryz.prog 76 #[ratioV tn td] (.int .i64 (e))) :
    FnL Tryz.prog 38 1 [fldS 0 l, .pv (ratioV tn td)] [(0, 0, rowP l)] (.pv (.int .i64 (e))) 0 [] :=
  fnl_run 300 [] [.f [0] [fldS 0 l] [(0, 0, rowP l)] (.pv (.int .i64 (0))) 0 [], .k, .r (.int .i64 (e))]
     True.intro (And.intro hc (And.intro (Eq.refl (List.map (SV.ren (renU [0] 3)) [fldS 0 l])) (And.intro (reflH (renU [0] 3) [(0, 0, rowP l)]) (And.intro ht True.intro)))) (by kernel_rfl)

end Go.Proofs.YtpngjeloiifgnaaGreat
