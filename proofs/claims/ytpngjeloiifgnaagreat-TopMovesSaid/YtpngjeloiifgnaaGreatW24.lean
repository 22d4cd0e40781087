/-
  Joined: E, K. Conditions: none.
-/
import Derived.Test.YtpngjeloiifgnaaGreatD
import Derived.Test.YtpngjeloiifgnaaGreatW3
import Derived.Test.YtpngjeloiifgnaaGreatC
namespace Go.Proofs.YtpngjeloiifgnaaGreat
open Go.RowKit
theorem half_low (Y : Nat) : (Y : Int) / 4294967296 = ((Y / 4294967296 : Nat) : Int) := by omega
theorem half_and {Y : Nat} (h : Y < 18446744073709551616) : bits BinOp.and IntKind.u64 (Y : Int) 4294967295 = ((Y % 4294967296 : Nat) : Int) := by
  rw [and_low32 _ (by omega) (by omega)]; omega
theorem shl_mod (lo s : Nat) : IntKind.u64.wrap ((lo : Int) * 2 ^ s) = ((lo * 2 ^ s % 18446744073709551616 : Nat) : Int) := by
  rw [IntKind.wrap_u64]
  have e : (lo : Int) * 2 ^ s = ((lo * 2 ^ s : Nat) : Int) := by push_cast; rfl
  rw [e]
  omega
theorem div_full (hi lo y : Nat) (w : World) (h : hi < y) (hlo : lo < 18446744073709551616) (hy : y < 18446744073709551616) :
    Calls Tryz.prog 141 #[.int .u64 hi, .int .u64 lo, .int .u64 y] w fun e w' => e = .returned (.tuple #[.int .u64 (((hi * 18446744073709551616 + lo) / y : Nat) : Int), .int .u64 (((hi * 18446744073709551616 + lo) % y : Nat) : Int)]) ∧ Gr w w' := by
  by_cases h0 : hi = 0
  · subst h0
    have e : 0 * 18446744073709551616 + lo = lo := by omega
    rw [e]
    exact div_low lo y w hlo hy h
  · obtain ⟨g1, g2, g3, g4⟩ := shifted y (by omega) hy
    obtain ⟨s, hs⟩ : ∃ s, s = 64 - Lib.bitLen y := ⟨_, rfl⟩
    rw [← hs] at g1 g2 g3
    have ps : 0 < 2 ^ s := Nat.pow_pos (by omega)
    obtain ⟨Y, hY⟩ : ∃ Y, y * 2 ^ s = Y := ⟨_, rfl⟩
    obtain ⟨A, hA⟩ : ∃ A, hi * 2 ^ s = A := ⟨_, rfl⟩
    rw [hY] at g1 g2
    have hAY : A + 2 ^ s ≤ Y := by
      rw [← hA, ← hY]
      have := Nat.mul_le_mul_right (2 ^ s) (show hi + 1 ≤ y by omega)
      rw [Nat.add_mul, Nat.one_mul] at this
      exact this
    have hl : lo / 2 ^ (64 - s) < 2 ^ s := by
      apply Nat.div_lt_of_lt_mul
      rw [← Nat.pow_add, show 64 - s + s = 64 by omega]
      exact hlo
    obtain ⟨U, hU⟩ : ∃ U, U = A + lo / 2 ^ (64 - s) := ⟨_, rfl⟩
    have hUY : U < Y := by omega
    obtain ⟨L, hL⟩ : ∃ L, L = lo * 2 ^ s % 18446744073709551616 := ⟨_, rfl⟩
    obtain ⟨y1, hy1⟩ : ∃ x, x = Y / 4294967296 := ⟨_, rfl⟩
    obtain ⟨y0, hy0⟩ : ∃ x, x = Y % 4294967296 := ⟨_, rfl⟩
    obtain ⟨l1, hl1⟩ : ∃ x, x = L / 4294967296 := ⟨_, rfl⟩
    obtain ⟨l0, hl0⟩ : ∃ x, x = L % 4294967296 := ⟨_, rfl⟩
    obtain ⟨q1, hq1⟩ : ∃ x, x = U / y1 := ⟨_, rfl⟩
    obtain ⟨m1, hm1⟩ : ∃ x, q1 * y1 = x := ⟨_, rfl⟩
    obtain ⟨Q1, hQ1⟩ : ∃ x, x = (U * 4294967296 + l1) / Y := ⟨_, rfl⟩
    obtain ⟨V, hV⟩ : ∃ x, x = (U * 4294967296 + l1) % Y := ⟨_, rfl⟩
    obtain ⟨q0, hq0⟩ : ∃ x, x = V / y1 := ⟨_, rfl⟩
    obtain ⟨m0, hm0⟩ : ∃ x, q0 * y1 = x := ⟨_, rfl⟩
    obtain ⟨Q0, hQ0⟩ : ∃ x, x = (V * 4294967296 + l0) / Y := ⟨_, rfl⟩
    obtain ⟨R, hR⟩ : ∃ x, x = (V * 4294967296 + l0) % Y := ⟨_, rfl⟩
    have hL1 : L < 18446744073709551616 := by omega
    have c1 : l1 < 4294967296 := by omega
    have c0 : l0 < 4294967296 := by omega
    have cY : Y = y1 * 4294967296 + y0 := by omega
    have hVY : V < Y := hV ▸ Nat.mod_lt _ (by omega)
    have hRY : R < Y := hR ▸ Nat.mod_lt _ (by omega)
    have k1 : m1 ≤ U := by rw [← hm1, hq1]; exact Nat.div_mul_le_self _ _
    have k0 : m0 ≤ V := by rw [← hm0, hq0]; exact Nat.div_mul_le_self _ _
    have i1 : q1 ≤ U := hq1 ▸ Nat.div_le_self _ _
    have i0 : q0 ≤ V := hq0 ▸ Nat.div_le_self _ _
    have w1 : U - m1 < y1 := by
      have := Nat.div_add_mod U y1
      have t := Nat.mod_lt U (show 0 < y1 by omega)
      rw [← hq1, Nat.mul_comm, hm1] at this
      omega
    have w0 : V - m0 < y1 := by
      have := Nat.div_add_mod V y1
      have t := Nat.mod_lt V (show 0 < y1 by omega)
      rw [← hq0, Nat.mul_comm, hm0] at this
      omega
    have n1 := est_lt (U := U) (l1 := l1) (Y := Y) hUY c1
    have n0 := est_lt (U := V) (l1 := l0) (Y := Y) hVY c0
    rw [← hQ1] at n1
    rw [← hQ0] at n0
    have s1 := est_start (U := U) (l1 := l1) cY c1 (show 0 < y1 by omega)
    have s0 := est_start (U := V) (l1 := l0) cY c0 (show 0 < y1 by omega)
    rw [← hQ1, ← hq1] at s1
    rw [← hQ0, ← hq0] at s0
    have R1 : U * 4294967296 + l1 = Q1 * Y + V := by rw [hQ1, hV, Nat.mul_comm _ Y]; exact (Nat.div_add_mod _ _).symm
    have R0 : V * 4294967296 + l0 = Q0 * Y + R := by rw [hQ0, hR, Nat.mul_comm _ Y]; exact (Nat.div_add_mod _ _).symm
    have fin := digits (hi := hi) (lo := lo) (y := y) (s := s) (by omega) hlo g3 hY (by rw [hA]; exact hU) hL hl1 hl0 hQ1 hV hQ0 hR
    have core := div_core hi lo y s U y1 y0 l1 l0 q1 Q1 V q0 Q0 Y Y A U L y1 y0 l1 l0 q1 m1 Q1 V q0 m0 Q0 R w h hlo hy (by omega) (Lib.hid hs) g4 g3
      (Lib.hid rfl) (Lib.hid rfl) (Lib.hid rfl) (Lib.hid rfl) (Lib.hid rfl) (Lib.hid rfl) (Lib.hid rfl) (Lib.hid rfl) (Lib.hid rfl) (Lib.hid rfl) (Lib.hid rfl)
      (shl_eq hY g2) (shl_eq hA (by omega)) (by rw [hU]; exact or_sum hA g3 hlo (by omega)) (by rw [hL]; exact shl_mod lo s)
      (by rw [hy1]; exact half_low Y) (by rw [hy0]; exact half_and g2) (by rw [hl1]; exact half_low L) (by rw [hl0]; exact half_and hL1)
      (by rw [hq1]; rfl) (mul_in hm1 (by omega)) (by omega) (by omega) (Lib.hid (rest_in R1 (by omega))) (Lib.hid (by rw [hq0]; rfl)) (Lib.hid (mul_in hm0 (by omega))) (by omega) (by omega)
      (Lib.hid (rest_in R0 (by omega))) (by omega) (by omega) (Lib.hid cY) (by omega) (by omega) (by omega) (by omega)
      (by omega) (by omega) (by omega) (by omega) (by omega) (by omega) (by omega) (by omega) (by omega) (by omega) (by omega) (by omega)
      (Lib.hid hQ1) (Lib.hid hQ0) (by omega) (by omega) (by omega) (by omega) (by omega) (by omega)
      (Lib.hid ⟨s1, by rw [show ((U : Int) - (m1 : Int)).toNat = U - m1 by omega, hm1]; omega⟩) (Lib.hid ⟨s0, by rw [show ((V : Int) - (m0 : Int)).toNat = V - m0 by omega, hm0]; omega⟩) (by omega) (by omega)
    refine core.mono fun e w' ⟨he, hw⟩ => ⟨he.trans (ret_int2 ?_ ?_), Gr.of_eq hw⟩
    · rw [fin.1, Int.natCast_add, Int.natCast_mul]; rfl
    · rw [fin.2, Int.natCast_ediv, Int.natCast_pow]; rfl

set_option maxHeartbeats 400000 in
theorem rem_full (hi lo y : Nat) (w : World) (h : 0 < y) (hhi : hi < 18446744073709551616) (hlo : lo < 18446744073709551616) (hy : y < 18446744073709551616) :
    Calls Tryz.prog 171 #[.int .u64 hi, .int .u64 lo, .int .u64 y] w fun e w' => e = .returned (.int .u64 (((hi * 18446744073709551616 + lo) % y : Nat) : Int)) ∧ Gr w w' := by
  obtain ⟨r, hr⟩ : ∃ r : Nat, r = hi % y := ⟨_, rfl⟩
  have hry : r < y := hr ▸ Nat.mod_lt _ h
  have e1 : (hi : Int) % (y : Int) = (r : Int) := by rw [hr]; rfl
  have e2 : (r * 18446744073709551616 + lo) % y = (hi * 18446744073709551616 + lo) % y := by
    rw [hr, Nat.add_mod, Nat.mod_mul_mod, ← Nat.add_mod]
  obtain ⟨q, hq⟩ : ∃ q : Int, q = (((r * 18446744073709551616 + lo) / y : Nat) : Int) := ⟨_, rfl⟩
  obtain ⟨z, hz⟩ : ∃ z : Int, z = (((hi * 18446744073709551616 + lo) % y : Nat) : Int) := ⟨_, rfl⟩
  have dv := fun w => hq ▸ (e2 ▸ div_full r lo y w hry hlo hy)
  rw [← hz]
  have DV : Hid (∀ w, Calls Tryz.prog 141 #[.int .u64 r, .int .u64 lo, .int .u64 y] w fun e w' => e = .returned (.tuple #[.int .u64 q, .int .u64 z]) ∧ Gr w w') := Lib.hid (fun w => hz ▸ dv w)
  have k0 : ((y : Int) == 0) = false := by simp; omega
  clear dv hq hz e2 hr
  go_enter Tryz.func171, Tryz.ntmps171
  go_wp2_with fail
  refine (DV.out _).mono ?_
  rintro e w1 ⟨rfl, hg⟩
  go_wp2
  go_ret
  exact ⟨rfl, hg⟩
end Go.Proofs.YtpngjeloiifgnaaGreat

namespace Go.Proofs.YtpngjeloiifgnaaGreat
open Go.RowKit
theorem abs_half {x : Int} (h : fits128 x) : wHi (x.natAbs : Int) = ((x.natAbs / 18446744073709551616 : Nat) : Int) ∧ wLo (x.natAbs : Int) = ((x.natAbs % 18446744073709551616 : Nat) : Int) ∧ x.natAbs / 18446744073709551616 < 18446744073709551616 := by
  unfold fits128 at h; unfold wHi wLo; omega
theorem rem_z (hi lo y n : Nat) (a b c z : Int) (w : World) (ha : a = hi) (hb : b = lo) (hc : c = y) (hn : n = hi * 18446744073709551616 + lo) (hz : z = (n % y : Nat)) (h : 0 < y) (hhi : hi < 18446744073709551616) (hlo : lo < 18446744073709551616) (hy : y < 18446744073709551616) :
    Calls Tryz.prog 171 #[.int .u64 a, .int .u64 b, .int .u64 c] w fun e w' => e = .returned (.int .u64 z) ∧ Gr w w' := by
  subst ha hb hc hn hz; exact rem_full hi lo y w h hhi hlo hy
theorem div_z (hi lo y n : Nat) (a b c q z : Int) (w : World) (ha : a = hi) (hb : b = lo) (hc : c = y) (hn : n = hi * 18446744073709551616 + lo) (hq : q = (n / y : Nat)) (hz : z = (n % y : Nat)) (h : hi < y) (hlo : lo < 18446744073709551616) (hy : y < 18446744073709551616) :
    Calls Tryz.prog 141 #[.int .u64 a, .int .u64 b, .int .u64 c] w fun e w' => e = .returned (.tuple #[.int .u64 q, .int .u64 z]) ∧ Gr w w' := by
  subst ha hb hc hn hq hz; exact div_full hi lo y w h hlo hy

set_option maxHeartbeats 800000 in
theorem remainder_any (x : Int) (d : Nat) (w : World) (h : fits128 x) (hd : 0 < d) (hd1 : d < 18446744073709551616) :
    Calls Tryz.prog 138 #[.agg #[.int .u64 (wHi x), .int .u64 (wLo x)], .int .u64 d] w fun e w' => e = .returned (.int .u64 ((x.natAbs % d : Nat) : Int)) ∧ Gr w w' := by
  obtain ⟨a1, a2, a3⟩ := abs_half h
  obtain ⟨a, ha⟩ : ∃ a : Int, a = wHi (x.natAbs : Int) := ⟨_, rfl⟩
  obtain ⟨b, hb⟩ : ∃ b : Int, b = wLo (x.natAbs : Int) := ⟨_, rfl⟩
  obtain ⟨z, hz⟩ : ∃ z : Int, z = ((x.natAbs % d : Nat) : Int) := ⟨_, rfl⟩
  obtain ⟨c, hc⟩ : ∃ c : Int, c = d := ⟨_, rfl⟩
  have WS : Hid (∀ w, Calls Tryz.prog 140 #[.agg #[.int .u64 (wHi x), .int .u64 (wLo x)]] w fun e w' => e = .returned (.agg #[.int .u64 a, .int .u64 b]) ∧ Gr w w') := Lib.hid (fun w => by rw [ha, hb]; exact wsize_any x w h)
  have RZ : Hid (∀ w, Calls Tryz.prog 171 #[.int .u64 a, .int .u64 b, .int .u64 c] w fun e w' => e = .returned (.int .u64 z) ∧ Gr w w') :=
    Lib.hid (fun w => rem_z _ _ d x.natAbs a b c z w (ha.trans a1) (hb.trans a2) hc (by omega) hz hd a3 (by omega) hd1)
  rw [← hz, ← hc]
  clear a1 a2 a3 ha hb hz hc h
  have n01 : w.heap.size < w.heap.size + 1 + 1 := by omega
  have n02 : w.heap.size < w.heap.size + 1 + 1 + 1 := by omega
  have n12 : w.heap.size + 1 < w.heap.size + 1 + 1 + 1 := by omega
  go_enter Tryz.func138, Tryz.ntmps138
  go_wp2_with fail
  refine (WS.out _).mono ?_
  rintro e w1 ⟨rfl, hgw1⟩
  have hc := Gr.cells hgw1
  have hfmw1 := Gr.marks hgw1
  have hzz := Gr.size hgw1
  try simp at hzz
  have zw1w : w.heap.size < w1.heap.size := by omega
  have cw1w0 : w1.cell? ⟨w.heap.size, 0, none⟩ = some (.int .u64 (wHi x)) := by rw [hc _ _ (by first | assumption | (simp; done) | (simp; omega))]; first | assumption | go_simp
  have cw1w1 : w1.cell? ⟨w.heap.size, 1, none⟩ = some (.int .u64 (wLo x)) := by rw [hc _ _ (by first | assumption | (simp; done) | (simp; omega))]; first | assumption | go_simp
  clear hc hzz
  go_wp2_with fail
  refine (RZ.out _).mono ?_
  rintro e w2 ⟨rfl, hgw2⟩
  have hc := Gr.cells hgw2
  have hfmw2 := Gr.marks hgw2
  have hzz := Gr.size hgw2
  try simp at hzz
  have zw2w : w.heap.size < w2.heap.size := by omega
  have zw2w1 : w1.heap.size < w2.heap.size := by omega
  have cw2w0 : w2.cell? ⟨w.heap.size, 0, none⟩ = some (.int .u64 (wHi x)) := by rw [hc _ _ (by first | assumption | (simp; done) | (simp; omega))]; first | assumption | go_simp
  have cw2w1 : w2.cell? ⟨w.heap.size, 1, none⟩ = some (.int .u64 (wLo x)) := by rw [hc _ _ (by first | assumption | (simp; done) | (simp; omega))]; first | assumption | go_simp
  have cw2w10 : w2.cell? ⟨w1.heap.size, 0, none⟩ = some (.int .u64 a) := by rw [hc _ _ (by first | assumption | (simp; done) | (simp; omega))]; first | assumption | go_simp
  have cw2w11 : w2.cell? ⟨w1.heap.size, 1, none⟩ = some (.int .u64 b) := by rw [hc _ _ (by first | assumption | (simp; done) | (simp; omega))]; first | assumption | go_simp
  clear hc hzz
  clear cw1w0 cw1w1
  go_wp2
  go_ret
  refine ⟨rfl, ?_⟩
  repeat (first | exact Gr.refl _ | apply Gr.alloc | apply Gr.drewN | apply Gr.drew | (refine Gr.setCell ?_ (by simp) _) | (refine Gr.trans ?_ (by assumption)))

set_option maxHeartbeats 800000 in
theorem divided_any (x : Int) (d : Nat) (w : World) (h : fits128 x) (hd : 0 < d) (hd1 : d < 18446744073709551616) :
    Calls Tryz.prog 96 #[.agg #[.int .u64 (wHi x), .int .u64 (wLo x)], .int .u64 d] w fun e w' => e = .returned (.tuple #[.int .i64 (sgV (x.natAbs / d) (decide (x < 0))), .bool (fitB (x.natAbs / d))]) ∧ Gr w w' := by
  obtain ⟨a1, a2, a3⟩ := abs_half h
  obtain ⟨a, ha⟩ : ∃ a : Int, a = wHi (x.natAbs : Int) := ⟨_, rfl⟩
  obtain ⟨b, hb⟩ : ∃ b : Int, b = wLo (x.natAbs : Int) := ⟨_, rfl⟩
  obtain ⟨z, hz⟩ : ∃ z : Int, z = ((x.natAbs % d : Nat) : Int) := ⟨_, rfl⟩
  obtain ⟨q, hq⟩ : ∃ q : Int, q = ((x.natAbs / d : Nat) : Int) := ⟨_, rfl⟩
  obtain ⟨c, hc⟩ : ∃ c : Int, c = d := ⟨_, rfl⟩
  have WS : Hid (∀ w, Calls Tryz.prog 140 #[.agg #[.int .u64 (wHi x), .int .u64 (wLo x)]] w fun e w' => e = .returned (.agg #[.int .u64 a, .int .u64 b]) ∧ Gr w w') := Lib.hid (fun w => by rw [ha, hb]; exact wsize_any x w h)
  by_cases hh : d ≤ x.natAbs / 18446744073709551616
  · have e1 : 18446744073709551616 ≤ x.natAbs / d := by
      rw [Nat.le_div_iff_mul_le hd]
      have := Nat.div_mul_le_self x.natAbs 18446744073709551616
      have t := Nat.mul_le_mul_right 18446744073709551616 hh
      omega
    have e2 : sgV (x.natAbs / d) (decide (x < 0)) = 0 := by unfold sgV; rw [if_neg (by omega)]
    have e3 : fitB (x.natAbs / d) = false := by simp [fitB]; omega
    have t1 : c ≤ a := by omega
    rw [e2, e3, ← hc]
    clear a1 a2 a3 ha hb hz hq hc e1 e2 e3 hh h
    have n01 : w.heap.size < w.heap.size + 1 + 1 := by omega
    have n02 : w.heap.size < w.heap.size + 1 + 1 + 1 := by omega
    have n12 : w.heap.size + 1 < w.heap.size + 1 + 1 + 1 := by omega
    go_enter Tryz.func96, Tryz.ntmps96
    go_wp2_with fail
    refine (WS.out _).mono ?_
    rintro e w1 ⟨rfl, hgw1⟩
    have hc := Gr.cells hgw1
    have hfmw1 := Gr.marks hgw1
    have hzz := Gr.size hgw1
    try simp at hzz
    have zw1w : w.heap.size < w1.heap.size := by omega
    have cw1w0 : w1.cell? ⟨w.heap.size, 0, none⟩ = some (.int .u64 (wHi x)) := by rw [hc _ _ (by first | assumption | (simp; done) | (simp; omega))]; first | assumption | go_simp
    have cw1w1 : w1.cell? ⟨w.heap.size, 1, none⟩ = some (.int .u64 (wLo x)) := by rw [hc _ _ (by first | assumption | (simp; done) | (simp; omega))]; first | assumption | go_simp
    clear hc hzz
    go_wp2
    go_ret2
    refine ⟨rfl, ?_⟩
    repeat (first | exact Gr.refl _ | apply Gr.alloc | apply Gr.drewN | apply Gr.drew | (refine Gr.setCell ?_ (by simp) _) | (refine Gr.trans ?_ (by assumption)))
  · have DZ : Hid (∀ w, Calls Tryz.prog 141 #[.int .u64 a, .int .u64 b, .int .u64 c] w fun e w' => e = .returned (.tuple #[.int .u64 q, .int .u64 z]) ∧ Gr w w') :=
      Lib.hid (fun w => div_z _ _ d x.natAbs a b c q z w (ha.trans a1) (hb.trans a2) hc (by omega) hq hz (by omega) (by omega) hd1)
    have hql : x.natAbs / d < 18446744073709551616 := by
      apply Nat.div_lt_of_lt_mul
      have := Nat.mul_le_mul_right 18446744073709551616 (show x.natAbs / 18446744073709551616 + 1 ≤ d by omega)
      rw [Nat.add_mul] at this
      omega
    have t1 : a < c := by omega
    have hsx : decide (x.sign < 0) = decide (x < 0) := by simp [Int.sign_neg_iff]
    have SG : Hid (∀ w, Calls Tryz.prog 142 #[.int .u64 q, .bool (decide (x < 0))] w fun e w' => e = .returned (.tuple #[.int .i64 (sgV (x.natAbs / d) (decide (x < 0))), .bool (fitB (x.natAbs / d))]) ∧ w = w') := Lib.hid (fun w => signed_z _ q _ w hq hql)
    have SI : Hid (∀ w, Calls Tryz.prog 100 #[.agg #[.int .u64 (wHi x), .int .u64 (wLo x)]] w fun e w' => e = .returned (.int .i64 x.sign) ∧ Gr w w') := Lib.hid (fun w => sign_any x w h)
    rw [← hc]
    clear a1 a2 a3 ha hb hz hq hc hql hh h
    have n01 : w.heap.size < w.heap.size + 1 + 1 := by omega
    have n02 : w.heap.size < w.heap.size + 1 + 1 + 1 := by omega
    have n12 : w.heap.size + 1 < w.heap.size + 1 + 1 + 1 := by omega
    go_enter Tryz.func96, Tryz.ntmps96
    go_wp2_with fail
    refine (WS.out _).mono ?_
    rintro e w1 ⟨rfl, hgw1⟩
    have hc := Gr.cells hgw1
    have hfmw1 := Gr.marks hgw1
    have hzz := Gr.size hgw1
    try simp at hzz
    have zw1w : w.heap.size < w1.heap.size := by omega
    have cw1w0 : w1.cell? ⟨w.heap.size, 0, none⟩ = some (.int .u64 (wHi x)) := by rw [hc _ _ (by first | assumption | (simp; done) | (simp; omega))]; first | assumption | go_simp
    have cw1w1 : w1.cell? ⟨w.heap.size, 1, none⟩ = some (.int .u64 (wLo x)) := by rw [hc _ _ (by first | assumption | (simp; done) | (simp; omega))]; first | assumption | go_simp
    clear hc hzz
    go_wp2_with fail
    refine (DZ.out _).mono ?_
    rintro e w2 ⟨rfl, hgw2⟩
    have hc := Gr.cells hgw2
    have hfmw2 := Gr.marks hgw2
    have hzz := Gr.size hgw2
    try simp at hzz
    have zw2w : w.heap.size < w2.heap.size := by omega
    have zw2w1 : w1.heap.size < w2.heap.size := by omega
    have cw2w0 : w2.cell? ⟨w.heap.size, 0, none⟩ = some (.int .u64 (wHi x)) := by rw [hc _ _ (by first | assumption | (simp; done) | (simp; omega))]; first | assumption | go_simp
    have cw2w1 : w2.cell? ⟨w.heap.size, 1, none⟩ = some (.int .u64 (wLo x)) := by rw [hc _ _ (by first | assumption | (simp; done) | (simp; omega))]; first | assumption | go_simp
    have cw2w10 : w2.cell? ⟨w1.heap.size, 0, none⟩ = some (.int .u64 a) := by rw [hc _ _ (by first | assumption | (simp; done) | (simp; omega))]; first | assumption | go_simp
    have cw2w11 : w2.cell? ⟨w1.heap.size, 1, none⟩ = some (.int .u64 b) := by rw [hc _ _ (by first | assumption | (simp; done) | (simp; omega))]; first | assumption | go_simp
    clear hc hzz
    clear cw1w0 cw1w1
    go_wp2_with fail
    refine (SI.out _).mono ?_
    rintro e w3 ⟨rfl, hgw3⟩
    have hc := Gr.cells hgw3
    have hfmw3 := Gr.marks hgw3
    have hzz := Gr.size hgw3
    try simp at hzz
    have zw3w : w.heap.size < w3.heap.size := by omega
    have zw3w1 : w1.heap.size < w3.heap.size := by omega
    have cw3w0 : w3.cell? ⟨w.heap.size, 0, none⟩ = some (.int .u64 (wHi x)) := by rw [hc _ _ (by first | assumption | (simp; done) | (simp; omega))]; first | assumption | go_simp
    have cw3w1 : w3.cell? ⟨w.heap.size, 1, none⟩ = some (.int .u64 (wLo x)) := by rw [hc _ _ (by first | assumption | (simp; done) | (simp; omega))]; first | assumption | go_simp
    have cw3w10 : w3.cell? ⟨w1.heap.size, 0, none⟩ = some (.int .u64 a) := by rw [hc _ _ (by first | assumption | (simp; done) | (simp; omega))]; first | assumption | go_simp
    have cw3w11 : w3.cell? ⟨w1.heap.size, 1, none⟩ = some (.int .u64 b) := by rw [hc _ _ (by first | assumption | (simp; done) | (simp; omega))]; first | assumption | go_simp
    clear hc hzz
    clear cw2w0 cw2w1 cw2w10 cw2w11
    go_wp2_with fail
    refine (SG.out _).mono ?_
    rintro e w' ⟨rfl, rfl⟩
    go_wp2
    go_ret2
    refine ⟨rfl, ?_⟩
    repeat (first | exact Gr.refl _ | apply Gr.alloc | apply Gr.drewN | apply Gr.drew | (refine Gr.setCell ?_ (by simp) _) | (refine Gr.trans ?_ (by assumption)))
end Go.Proofs.YtpngjeloiifgnaaGreat
