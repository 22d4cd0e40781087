/-
  CoursePlaces: Check and At return what the reference returns. Conditions: none.
-/
import Derived.Test.YtjhkeinelbeekaaPm
import Derived.Test.YtjhkeinelbeekaaPx
import Derived.Test.YtjhkeinelbeekaaCv
namespace Go.Proofs.Ytjhkeinelbeekaa
open Go.RowKit

theorem Over_res {s d : Int} (hs : s.natAbs < 340282366920938463463374607431768211456) (hd : I64 d) (d0 : 0 < d) : ∃ N D E, IsRes s d N D E ∧ Pure Try.prog 79 #[bigI s, .int .i64 d] (.tuple #[ratioV N D, .int .i64 E]) := by
  unfold I64 at hd
  obtain ⟨dn, rfl⟩ : ∃ n : Nat, d = n := ⟨d.natAbs, by omega⟩
  obtain ⟨g, hg⟩ : ∃ g, g = Nat.gcd dn (s.natAbs % dn) := ⟨_, rfl⟩
  have hg2 : g = Nat.gcd s.natAbs dn := by rw [hg, Nat.gcd_comm dn (s.natAbs % dn), ← Nat.gcd_rec, Nat.gcd_comm]
  have g0 : 0 < g := hg ▸ Nat.gcd_pos_of_pos_left _ (by omega)
  have gl : g ≤ dn := hg ▸ Nat.gcd_le_left _ (by omega)
  have ml : s.natAbs % dn < dn := Nat.mod_lt _ (by omega)
  have q1 := Rdiv_any (decide (s < 0)) s.natAbs dn hs (by omega) (by omega)
  have q2 := Rdiv_any (decide (s < 0)) s.natAbs g hs g0 (by omega)
  have gk := Rcommon_any dn (s.natAbs % dn) g (by omega) (by omega) hg
  obtain ⟨x, hx⟩ : ∃ x, x = s.natAbs / g := ⟨_, rfl⟩
  obtain ⟨y, hy⟩ : ∃ y, y = dn / g := ⟨_, rfl⟩
  have ax : s.natAbs = g * x := by rw [hx, hg2]; exact (Nat.mul_div_cancel' (Nat.gcd_dvd_left _ _)).symm
  have bY : dn = g * y := by rw [hy, hg2]; exact (Nat.mul_div_cancel' (Nat.gcd_dvd_right _ _)).symm
  have hxy : Nat.gcd x y = 1 := by rw [hx, hy, hg2]; exact Nat.gcd_div_gcd_div_gcd_of_pos_right (by omega)
  have y0 : 0 < y := by
    rcases Nat.eq_zero_or_pos y with e | e
    · rw [e, Nat.mul_zero] at bY; omega
    · exact e
  have ly := Nat.div_le_self dn g
  rw [← hy] at ly
  have md := RMade_any (decide (s < 0)) false false x y
  rw [bigN_low (x := y) (by omega)] at md
  have q3 := quoU (x := dn) (y := g) (by omega)
  rw [← hy] at q3
  rw [← hx] at q2
  refine ⟨_, _, _, ?_, over_path (wrapu (by omega) (by omega)) q1 gk q2 (by omega) q3 md⟩
  have cx : (x : Int) * ((g * y : Nat) : Int) = ((g * x : Nat) : Int) * (y : Int) := by rw [← Int.natCast_mul, ← Int.natCast_mul]; congr 1; rw [Nat.mul_left_comm, Nat.mul_assoc]
  have sU : ¬ (y : Int) < 0 := by omega
  by_cases sg : s < 0
  · have x0 : 0 < x := by
      rcases Nat.eq_zero_or_pos x with e | e
      · rw [e, Nat.mul_zero] at ax; omega
      · exact e
    have := isRes_of (p := s) (q := (dn : Int)) (T := -(x : Int)) (U := (y : Int)) (by omega) (by omega) (by rw [Int.natAbs_neg, Int.natAbs_natCast, Int.natAbs_natCast]; exact hxy) (by
      rw [show s = -((g * x : Nat) : Int) by omega, bY, Int.neg_mul, Int.neg_mul, cx])
    rw [Int.natAbs_neg, Int.natAbs_natCast, Int.natAbs_natCast, dt (show -(x : Int) < 0 by omega), df sU, selI_sg (U := y) (fun h => by simp only [Bool.and_eq_true] at h; simpa [fitB] using h.2)] at this
    rw [dt sg]
    exact this
  · have := isRes_of (p := s) (q := (dn : Int)) (T := (x : Int)) (U := (y : Int)) (by omega) (by omega) (by rw [Int.natAbs_natCast, Int.natAbs_natCast]; exact hxy) (by
      rw [show s = ((g * x : Nat) : Int) by omega, bY, cx])
    rw [Int.natAbs_natCast, Int.natAbs_natCast, df (show ¬ (x : Int) < 0 by omega), df sU, selI_sg (U := y) (fun h => by simp only [Bool.and_eq_true] at h; simpa [fitB] using h.2)] at this
    rw [df sg]
    exact this

theorem RAt_res {pi pa pb n d : Int} (hn : I64 n) (hd : I64 d) (hp : okP pi pa pb = true) (ht : okB n d = true) :
    ∃ N D E, IsRes (pa * d + pb * n) d N D E ∧ Pure Try.prog 46 #[pointV pi pa pb, ratioV n d] (.tuple #[ratioV N D, .int .i64 E]) := by
  have hp' := okP_iff.1 hp
  have d1 := okB_den ht
  have c1 := RCheck02_ok hp
  have c2 := RCheck_ok hn hd ht
  have iA : I64 pa := by unfold I64; omega
  have iB : I64 pb := by unfold I64; omega
  have i1 : I64 1 := by unfold I64; omega
  have oB : okB pb 1 = true := okB_whole (by omega)
  have oA : okB pa 1 = true := okB_whole (by omega)
  have mr := muF_res (a := pb) (b := 1) (c := n) (d := d) oB ht
  have hm := RMul_any iB i1 hn hd oB ht
  generalize muN pb 1 n d = N1 at *
  generalize muD pb 1 n d = D1 at *
  generalize selE (muF pb 1 n d) = E1 at *
  rw [Int.one_mul] at mr
  rcases mr with ⟨rfl, k1, j1, j2, e1⟩ | ⟨rfl, rfl, rfl, _⟩
  · have D0 := okB_den k1
    have hadd := RAdd_any iA i1 j1 j2 oA k1
    have hres := (smF_res oA k1).congr (p' := pa * d + pb * n) (q' := d) (by omega) (by omega) (by
      rw [Int.one_mul, Int.mul_one, Int.add_mul, Int.add_mul, e1, Int.mul_right_comm pa D1 d])
    exact ⟨_, _, _, hres, rat_add c1 c2 hm hadd⟩
  · have p1 := RProduct_any pa d iA hd
    have p2 := RProduct_any pb n iB hn
    have b1 : (pa * d).natAbs ≤ 1048576 * 9223372036854775808 := by rw [Int.natAbs_mul]; unfold I64 at hd; exact Nat.mul_le_mul (by omega) (by omega)
    have b2 : (pb * n).natAbs ≤ 1048576 * 9223372036854775808 := by rw [Int.natAbs_mul]; unfold I64 at hn; exact Nat.mul_le_mul (by omega) (by omega)
    have p3 := RPlus_any (pa * d) (pb * n) (by omega) (by omega)
    obtain ⟨N, D, E, hr, ho⟩ := Over_res (s := pa * d + pb * n) (d := d) (by omega) hd (by omega)
    exact ⟨N, D, E, hr, rat_over c1 c2 hm p1 p2 p3 ho⟩

theorem places_law {pi pa pb n d : Int} (_ : I64 pi) (_ : I64 pa) (_ : I64 pb) (hn : I64 n) (hd : I64 d) :
    Pure Try.prog 11 #[pointV pi pa pb, ratioV n d] (.bool true) := by
  by_cases hp : okP pi pa pb = true
  · by_cases ht : okB n d = true
    · obtain ⟨N, D, E, r1, a1⟩ := At_res hn hd hp ht
      obtain ⟨N', D', E', r2, a2⟩ := RAt_res hn hd hp ht
      have d1 := okB_den ht
      obtain ⟨rfl, rfl, rfl⟩ := r1.uniq r2 (by omega)
      exact places_path a1 a2 (Check02_ok hp) (RCheck02_ok hp) eq1 eqq eq1
    · exact places_path (at_e1 (Check02_ok hp) (Check_bad hn hd ht)) (rat_e1 (RCheck02_ok hp) (RCheck_bad hn hd ht)) (Check02_ok hp) (RCheck02_ok hp) eq1 eqq eq1
  · obtain ⟨e, x⟩ := Check_ex hn hd
    exact places_path (at_e0 (Check02_bad hp) x) (rat_e0 (RCheck02_bad hp)) (Check02_bad hp) (RCheck02_bad hp) eq1 eqq eq1
end Go.Proofs.Ytjhkeinelbeekaa
