/-
  What is left of a whole number of 128 bits behind a division, and the division itself, in whatever world.
-/
import Derived.Test.YtjhkeinelbeekaaC
import Derived.Test.YtjhkeinelbeekaaE
namespace Go.Proofs.Ytjhkeinelbeekaa
open Go.RowKit

theorem abs_half {x : Int} (h : fits128 x) : wHi (x.natAbs : Int) = ((x.natAbs / 18446744073709551616 : Nat) : Int) ∧ wLo (x.natAbs : Int) = ((x.natAbs % 18446744073709551616 : Nat) : Int) ∧ x.natAbs / 18446744073709551616 < 18446744073709551616 := by
  unfold fits128 at h; unfold wHi wLo; omega
theorem rem_z (hi lo y n : Nat) (a b c z : Int) (w : World) (ha : a = hi) (hb : b = lo) (hc : c = y) (hn : n = hi * 18446744073709551616 + lo) (hz : z = (n % y : Nat)) (h : 0 < y) (hhi : hi < 18446744073709551616) (hlo : lo < 18446744073709551616) (hy : y < 18446744073709551616) :
    Calls Try.prog 100 #[.int .u64 a, .int .u64 b, .int .u64 c] w fun e w' => e = .returned (.int .u64 z) ∧ Gr w w' := by
  subst ha hb hc hn hz; exact rem_full hi lo y w h hhi hlo hy
theorem div_z (hi lo y n : Nat) (a b c q z : Int) (w : World) (ha : a = hi) (hb : b = lo) (hc : c = y) (hn : n = hi * 18446744073709551616 + lo) (hq : q = (n / y : Nat)) (hz : z = (n % y : Nat)) (h : hi < y) (hlo : lo < 18446744073709551616) (hy : y < 18446744073709551616) :
    Calls Try.prog 90 #[.int .u64 a, .int .u64 b, .int .u64 c] w fun e w' => e = .returned (.tuple #[.int .u64 q, .int .u64 z]) ∧ Gr w w' := by
  subst ha hb hc hn hq hz; exact div_full hi lo y w h hlo hy

set_option maxHeartbeats 800000 in
theorem remainder_any (x : Int) (d : Nat) (w : World) (h : fits128 x) (hd : 0 < d) (hd1 : d < 18446744073709551616) :
    Calls Try.prog 88 #[.agg #[.int .u64 (wHi x), .int .u64 (wLo x)], .int .u64 d] w fun e w' => e = .returned (.int .u64 ((x.natAbs % d : Nat) : Int)) ∧ Gr w w' := by
  obtain ⟨a1, a2, a3⟩ := abs_half h
  obtain ⟨a, ha⟩ : ∃ a : Int, a = wHi (x.natAbs : Int) := ⟨_, rfl⟩
  obtain ⟨b, hb⟩ : ∃ b : Int, b = wLo (x.natAbs : Int) := ⟨_, rfl⟩
  obtain ⟨z, hz⟩ : ∃ z : Int, z = ((x.natAbs % d : Nat) : Int) := ⟨_, rfl⟩
  obtain ⟨c, hc⟩ : ∃ c : Int, c = d := ⟨_, rfl⟩
  have WS : Hid (∀ w, Calls Try.prog 89 #[.agg #[.int .u64 (wHi x), .int .u64 (wLo x)]] w fun e w' => e = .returned (.agg #[.int .u64 a, .int .u64 b]) ∧ Gr w w') := Lib.hid (fun w => by rw [ha, hb]; exact wsize_any x w h)
  have RZ : Hid (∀ w, Calls Try.prog 100 #[.int .u64 a, .int .u64 b, .int .u64 c] w fun e w' => e = .returned (.int .u64 z) ∧ Gr w w') :=
    Lib.hid (fun w => rem_z _ _ d x.natAbs a b c z w (ha.trans a1) (hb.trans a2) hc (by omega) hz hd a3 (by omega) hd1)
  rw [← hz, ← hc]
  clear a1 a2 a3 ha hb hz hc h
  have n01 : w.heap.size < w.heap.size + 1 + 1 := by omega
  have n02 : w.heap.size < w.heap.size + 1 + 1 + 1 := by omega
  have n12 : w.heap.size + 1 < w.heap.size + 1 + 1 + 1 := by omega
  go_enter Try.func88, Try.ntmps88
  go_wp2_with fail
  refine (WS.out _).mono ?_
  rintro e w1 ⟨rfl, hgw1⟩
  have hc := Gr.cells hgw1
  have hfmw1 := Gr.marks hgw1
  have hzz := Gr.size hgw1
  try simp at hzz
  have zw1w : w.heap.size < w1.heap.size := by omega
  have cw1w0 : w1.cell? ⟨w.heap.size, 0, none⟩ = some (.int .u64 (wHi x)) := by rw [hc _ _ (by first | assumption | (simp; done) | (simp; omega))]; first | assumption | go_simp
  have cw1w1 : w1.cell? ⟨w.heap.size, 1, none⟩ = some (.int .u64 (wLo x)) := by rw [hc _ _ (by first | assumption | (simp; done) | (simp; omega))]; first | assumption | go_simp
  clear hc hzz
  go_wp2_with fail
  refine (RZ.out _).mono ?_
  rintro e w2 ⟨rfl, hgw2⟩
  have hc := Gr.cells hgw2
  have hfmw2 := Gr.marks hgw2
  have hzz := Gr.size hgw2
  try simp at hzz
  have zw2w : w.heap.size < w2.heap.size := by omega
  have zw2w1 : w1.heap.size < w2.heap.size := by omega
  have cw2w0 : w2.cell? ⟨w.heap.size, 0, none⟩ = some (.int .u64 (wHi x)) := by rw [hc _ _ (by first | assumption | (simp; done) | (simp; omega))]; first | assumption | go_simp
  have cw2w1 : w2.cell? ⟨w.heap.size, 1, none⟩ = some (.int .u64 (wLo x)) := by rw [hc _ _ (by first | assumption | (simp; done) | (simp; omega))]; first | assumption | go_simp
  have cw2w10 : w2.cell? ⟨w1.heap.size, 0, none⟩ = some (.int .u64 a) := by rw [hc _ _ (by first | assumption | (simp; done) | (simp; omega))]; first | assumption | go_simp
  have cw2w11 : w2.cell? ⟨w1.heap.size, 1, none⟩ = some (.int .u64 b) := by rw [hc _ _ (by first | assumption | (simp; done) | (simp; omega))]; first | assumption | go_simp
  clear hc hzz
  clear cw1w0 cw1w1
  go_wp2
  go_ret
  refine ⟨rfl, ?_⟩
  repeat (first | exact Gr.refl _ | apply Gr.alloc | apply Gr.drewN | apply Gr.drew | (refine Gr.setCell ?_ (by simp) _) | (refine Gr.trans ?_ (by assumption)))

set_option maxHeartbeats 800000 in
theorem divided_any (x : Int) (d : Nat) (w : World) (h : fits128 x) (hd : 0 < d) (hd1 : d < 18446744073709551616) :
    Calls Try.prog 62 #[.agg #[.int .u64 (wHi x), .int .u64 (wLo x)], .int .u64 d] w fun e w' => e = .returned (.tuple #[.int .i64 (sgV (x.natAbs / d) (decide (x < 0))), .bool (fitB (x.natAbs / d))]) ∧ Gr w w' := by
  obtain ⟨a1, a2, a3⟩ := abs_half h
  obtain ⟨a, ha⟩ : ∃ a : Int, a = wHi (x.natAbs : Int) := ⟨_, rfl⟩
  obtain ⟨b, hb⟩ : ∃ b : Int, b = wLo (x.natAbs : Int) := ⟨_, rfl⟩
  obtain ⟨z, hz⟩ : ∃ z : Int, z = ((x.natAbs % d : Nat) : Int) := ⟨_, rfl⟩
  obtain ⟨q, hq⟩ : ∃ q : Int, q = ((x.natAbs / d : Nat) : Int) := ⟨_, rfl⟩
  obtain ⟨c, hc⟩ : ∃ c : Int, c = d := ⟨_, rfl⟩
  have WS : Hid (∀ w, Calls Try.prog 89 #[.agg #[.int .u64 (wHi x), .int .u64 (wLo x)]] w fun e w' => e = .returned (.agg #[.int .u64 a, .int .u64 b]) ∧ Gr w w') := Lib.hid (fun w => by rw [ha, hb]; exact wsize_any x w h)
  by_cases hh : d ≤ x.natAbs / 18446744073709551616
  · have e1 : 18446744073709551616 ≤ x.natAbs / d := by
      rw [Nat.le_div_iff_mul_le hd]
      have := Nat.div_mul_le_self x.natAbs 18446744073709551616
      have t := Nat.mul_le_mul_right 18446744073709551616 hh
      omega
    have e2 : sgV (x.natAbs / d) (decide (x < 0)) = 0 := by unfold sgV; rw [if_neg (by omega)]
    have e3 : fitB (x.natAbs / d) = false := by simp [fitB]; omega
    have t1 : c ≤ a := by omega
    rw [e2, e3, ← hc]
    clear a1 a2 a3 ha hb hz hq hc e1 e2 e3 hh h
    have n01 : w.heap.size < w.heap.size + 1 + 1 := by omega
    have n02 : w.heap.size < w.heap.size + 1 + 1 + 1 := by omega
    have n12 : w.heap.size + 1 < w.heap.size + 1 + 1 + 1 := by omega
    go_enter Try.func62, Try.ntmps62
    go_wp2_with fail
    refine (WS.out _).mono ?_
    rintro e w1 ⟨rfl, hgw1⟩
    have hc := Gr.cells hgw1
    have hfmw1 := Gr.marks hgw1
    have hzz := Gr.size hgw1
    try simp at hzz
    have zw1w : w.heap.size < w1.heap.size := by omega
    have cw1w0 : w1.cell? ⟨w.heap.size, 0, none⟩ = some (.int .u64 (wHi x)) := by rw [hc _ _ (by first | assumption | (simp; done) | (simp; omega))]; first | assumption | go_simp
    have cw1w1 : w1.cell? ⟨w.heap.size, 1, none⟩ = some (.int .u64 (wLo x)) := by rw [hc _ _ (by first | assumption | (simp; done) | (simp; omega))]; first | assumption | go_simp
    clear hc hzz
    go_wp2
    go_ret2
    refine ⟨rfl, ?_⟩
    repeat (first | exact Gr.refl _ | apply Gr.alloc | apply Gr.drewN | apply Gr.drew | (refine Gr.setCell ?_ (by simp) _) | (refine Gr.trans ?_ (by assumption)))
  · have DZ : Hid (∀ w, Calls Try.prog 90 #[.int .u64 a, .int .u64 b, .int .u64 c] w fun e w' => e = .returned (.tuple #[.int .u64 q, .int .u64 z]) ∧ Gr w w') :=
      Lib.hid (fun w => div_z _ _ d x.natAbs a b c q z w (ha.trans a1) (hb.trans a2) hc (by omega) hq hz (by omega) (by omega) hd1)
    have hql : x.natAbs / d < 18446744073709551616 := by
      apply Nat.div_lt_of_lt_mul
      have := Nat.mul_le_mul_right 18446744073709551616 (show x.natAbs / 18446744073709551616 + 1 ≤ d by omega)
      rw [Nat.add_mul] at this
      omega
    have t1 : a < c := by omega
    have hsx : decide (x.sign < 0) = decide (x < 0) := by simp [Int.sign_neg_iff]
    have SG : Hid (∀ w, Calls Try.prog 64 #[.int .u64 q, .bool (decide (x < 0))] w fun e w' => e = .returned (.tuple #[.int .i64 (sgV (x.natAbs / d) (decide (x < 0))), .bool (fitB (x.natAbs / d))]) ∧ w = w') := Lib.hid (fun w => signed_z _ q _ w hq hql)
    have SI : Hid (∀ w, Calls Try.prog 58 #[.agg #[.int .u64 (wHi x), .int .u64 (wLo x)]] w fun e w' => e = .returned (.int .i64 x.sign) ∧ Gr w w') := Lib.hid (fun w => sign_any x w h)
    rw [← hc]
    clear a1 a2 a3 ha hb hz hq hc hql hh h
    have n01 : w.heap.size < w.heap.size + 1 + 1 := by omega
    have n02 : w.heap.size < w.heap.size + 1 + 1 + 1 := by omega
    have n12 : w.heap.size + 1 < w.heap.size + 1 + 1 + 1 := by omega
    go_enter Try.func62, Try.ntmps62
    go_wp2_with fail
    refine (WS.out _).mono ?_
    rintro e w1 ⟨rfl, hgw1⟩
    have hc := Gr.cells hgw1
    have hfmw1 := Gr.marks hgw1
    have hzz := Gr.size hgw1
    try simp at hzz
    have zw1w : w.heap.size < w1.heap.size := by omega
    have cw1w0 : w1.cell? ⟨w.heap.size, 0, none⟩ = some (.int .u64 (wHi x)) := by rw [hc _ _ (by first | assumption | (simp; done) | (simp; omega))]; first | assumption | go_simp
    have cw1w1 : w1.cell? ⟨w.heap.size, 1, none⟩ = some (.int .u64 (wLo x)) := by rw [hc _ _ (by first | assumption | (simp; done) | (simp; omega))]; first | assumption | go_simp
    clear hc hzz
    go_wp2_with fail
    refine (DZ.out _).mono ?_
    rintro e w2 ⟨rfl, hgw2⟩
    have hc := Gr.cells hgw2
    have hfmw2 := Gr.marks hgw2
    have hzz := Gr.size hgw2
    try simp at hzz
    have zw2w : w.heap.size < w2.heap.size := by omega
    have zw2w1 : w1.heap.size < w2.heap.size := by omega
    have cw2w0 : w2.cell? ⟨w.heap.size, 0, none⟩ = some (.int .u64 (wHi x)) := by rw [hc _ _ (by first | assumption | (simp; done) | (simp; omega))]; first | assumption | go_simp
    have cw2w1 : w2.cell? ⟨w.heap.size, 1, none⟩ = some (.int .u64 (wLo x)) := by rw [hc _ _ (by first | assumption | (simp; done) | (simp; omega))]; first | assumption | go_simp
    have cw2w10 : w2.cell? ⟨w1.heap.size, 0, none⟩ = some (.int .u64 a) := by rw [hc _ _ (by first | assumption | (simp; done) | (simp; omega))]; first | assumption | go_simp
    have cw2w11 : w2.cell? ⟨w1.heap.size, 1, none⟩ = some (.int .u64 b) := by rw [hc _ _ (by first | assumption | (simp; done) | (simp; omega))]; first | assumption | go_simp
    clear hc hzz
    clear cw1w0 cw1w1
    go_wp2_with fail
    refine (SI.out _).mono ?_
    rintro e w3 ⟨rfl, hgw3⟩
    have hc := Gr.cells hgw3
    have hfmw3 := Gr.marks hgw3
    have hzz := Gr.size hgw3
    try simp at hzz
    have zw3w : w.heap.size < w3.heap.size := by omega
    have zw3w1 : w1.heap.size < w3.heap.size := by omega
    have cw3w0 : w3.cell? ⟨w.heap.size, 0, none⟩ = some (.int .u64 (wHi x)) := by rw [hc _ _ (by first | assumption | (simp; done) | (simp; omega))]; first | assumption | go_simp
    have cw3w1 : w3.cell? ⟨w.heap.size, 1, none⟩ = some (.int .u64 (wLo x)) := by rw [hc _ _ (by first | assumption | (simp; done) | (simp; omega))]; first | assumption | go_simp
    have cw3w10 : w3.cell? ⟨w1.heap.size, 0, none⟩ = some (.int .u64 a) := by rw [hc _ _ (by first | assumption | (simp; done) | (simp; omega))]; first | assumption | go_simp
    have cw3w11 : w3.cell? ⟨w1.heap.size, 1, none⟩ = some (.int .u64 b) := by rw [hc _ _ (by first | assumption | (simp; done) | (simp; omega))]; first | assumption | go_simp
    clear hc hzz
    clear cw2w0 cw2w1 cw2w10 cw2w11
    go_wp2_with fail
    refine (SG.out _).mono ?_
    rintro e w' ⟨rfl, rfl⟩
    go_wp2
    go_ret2
    refine ⟨rfl, ?_⟩
    repeat (first | exact Gr.refl _ | apply Gr.alloc | apply Gr.drewN | apply Gr.drew | (refine Gr.setCell ?_ (by simp) _) | (refine Gr.trans ?_ (by assumption)))
end Go.Proofs.Ytjhkeinelbeekaa
