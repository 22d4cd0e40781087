/-
  Of of package ratio, and the reference's Make and Of, return the same, in whatever world.
-/
import Derived.Test.YtmcfpclhniahoaaG
import Derived.Deep.RegionHeld3
namespace Go.Proofs.Ytmcfpclhniahoaa
open Go.RowKit

set_option maxHeartbeats 400000 in
theorem of18_any (n : Int) (w : World) (hn : I64 n) :
    Calls Try.prog 18 #[.int .i64 n] w fun e w' => e = .returned (.tuple #[.agg #[.int .i64 (mkN n 1), .int .i64 (mkD n 1)], .int .i64 (mkE n 1)]) ∧ Gr w w' := by
  have HN := Lib.hid hn
  have H1 : Hid (I64 1) := Lib.hid (by unfold I64; omega)
  clear hn
  have n01 : w.heap.size < w.heap.size + 1 + 1 := by omega
  have n02 : w.heap.size < w.heap.size + 1 + 1 + 1 := by omega
  have n12 : w.heap.size + 1 < w.heap.size + 1 + 1 + 1 := by omega
  go_enter Try.func18, Try.ntmps18
  go_wp2_with fail
  refine (make17_any _ _ _ HN.out H1.out).mono ?_
  rintro e w1 ⟨rfl, hgw1⟩
  have hcw1 := Gr.cells hgw1
  have hfw1 := Gr.marks hgw1
  have hzzw1 := Gr.size hgw1
  try simp at hzzw1
  have hzw10 : w.heap.size < w1.heap.size := by omega
  clear hzzw1
  go_wp2
  refine bodyPost_ret (v := .tuple #[.agg #[.int .i64 (mkN n 1), .int .i64 (mkD n 1)], .int .i64 (mkE n 1)]) (by simp [results, Try.results18, go_sem, *]) rfl ⟨rfl, ?_⟩
  repeat (first | exact Gr.refl _ | apply Gr.alloc | apply Gr.drewN | apply Gr.drew | (refine Gr.setCell ?_ (by simp) _) | (refine Gr.trans ?_ (by assumption)))

theorem size44_s (n z : Int) (w : World) (hz : z = n.natAbs) (h0 : -9223372036854775808 ≤ n) (h1 : n ≤ 9223372036854775807) :
    Calls Try.prog 44 #[.int .i64 n] w fun e w' => e = .returned (.int .u64 z) ∧ w' = w :=
  (size44_z n z w hz h0 h1).mono fun _ _ ⟨a, b⟩ => ⟨a, b.symm⟩

/-- Do both sizes fit, where their upper halves are given? -/
def fit4 (a b c d : Int) : Bool := decide (a ≤ 0 ∧ b ≤ 9223372036854775807 ∧ c ≤ 0 ∧ d ≤ 9223372036854775807)
def sgn (neg : Bool) (n : Int) : Int := if neg then -n else n

set_option maxHeartbeats 1000000 in
theorem made45_any (neg n1 n2 : Bool) (a b c d : Int) (w : World) (ha : 0 ≤ a) (hb : 0 ≤ b) (hc : 0 ≤ c) (hd : 0 ≤ d) (ha1 : a < 18446744073709551616) (hb1 : b < 18446744073709551616) (hc1 : c < 18446744073709551616) (hd1 : d < 18446744073709551616) :
    Calls Try.prog 45 #[.bool neg, .agg #[.bool n1, .int .u64 a, .int .u64 b], .agg #[.bool n2, .int .u64 c, .int .u64 d]] w fun e w' => e = .returned (.tuple #[.agg #[.int .i64 (selI (fit4 a b c d) (sgn neg b)), .int .i64 (selI (fit4 a b c d) d)], .int .i64 (selE (fit4 a b c d))]) ∧ Gr w w' := by
  by_cases h0 : 0 < a
  · have t0 : decide (0 < a) = true := by simpa using h0
    have hf : fit4 a b c d = false := by simp [fit4]; omega
    rw [hf]
    have HF := Lib.hid hf
    clear hf
    go_enter Try.func45, Try.ntmps45
    go_wp2
    refine bodyPost_ret (v := .tuple #[.agg #[.int .i64 0, .int .i64 0], .int .i64 16]) (by simp [results, Try.results45, go_sem]) rfl ⟨rfl, ?_⟩
    repeat (first | exact Gr.refl _ | apply Gr.alloc | apply Gr.drewN | apply Gr.drew | (refine Gr.setCell ?_ (by simp) _) | (refine Gr.trans ?_ (by assumption)))
  · have t0 : decide (0 < a) = false := by simpa using h0
    by_cases h1 : 9223372036854775807 < b
    · have t1 : decide (9223372036854775807 < b) = true := by simpa using h1
      have hf : fit4 a b c d = false := by simp [fit4]; omega
      rw [hf]
      have HF := Lib.hid hf
      clear hf
      go_enter Try.func45, Try.ntmps45
      go_wp2
      refine bodyPost_ret (v := .tuple #[.agg #[.int .i64 0, .int .i64 0], .int .i64 16]) (by simp [results, Try.results45, go_sem]) rfl ⟨rfl, ?_⟩
      repeat (first | exact Gr.refl _ | apply Gr.alloc | apply Gr.drewN | apply Gr.drew | (refine Gr.setCell ?_ (by simp) _) | (refine Gr.trans ?_ (by assumption)))
    · have t1 : decide (9223372036854775807 < b) = false := by simpa using h1
      by_cases h2 : 0 < c
      · have t2 : decide (0 < c) = true := by simpa using h2
        have hf : fit4 a b c d = false := by simp [fit4]; omega
        rw [hf]
        have HF := Lib.hid hf
        clear hf
        go_enter Try.func45, Try.ntmps45
        go_wp2
        refine bodyPost_ret (v := .tuple #[.agg #[.int .i64 0, .int .i64 0], .int .i64 16]) (by simp [results, Try.results45, go_sem]) rfl ⟨rfl, ?_⟩
        repeat (first | exact Gr.refl _ | apply Gr.alloc | apply Gr.drewN | apply Gr.drew | (refine Gr.setCell ?_ (by simp) _) | (refine Gr.trans ?_ (by assumption)))
      · have t2 : decide (0 < c) = false := by simpa using h2
        by_cases h3 : 9223372036854775807 < d
        · have t3 : decide (9223372036854775807 < d) = true := by simpa using h3
          have hf : fit4 a b c d = false := by simp [fit4]; omega
          rw [hf]
          have HF := Lib.hid hf
          clear hf
          go_enter Try.func45, Try.ntmps45
          go_wp2
          refine bodyPost_ret (v := .tuple #[.agg #[.int .i64 0, .int .i64 0], .int .i64 16]) (by simp [results, Try.results45, go_sem]) rfl ⟨rfl, ?_⟩
          repeat (first | exact Gr.refl _ | apply Gr.alloc | apply Gr.drewN | apply Gr.drew | (refine Gr.setCell ?_ (by simp) _) | (refine Gr.trans ?_ (by assumption)))
        · have t3 : decide (9223372036854775807 < d) = false := by simpa using h3
          have hf : fit4 a b c d = true := by simp [fit4]; omega
          rw [hf]
          have HF := Lib.hid hf
          clear hf
          cases neg
          · go_enter Try.func45, Try.ntmps45
            go_wp2
            refine bodyPost_ret (v := .tuple #[.agg #[.int .i64 b, .int .i64 d], .int .i64 0]) (by simp [results, Try.results45, go_sem]) rfl ⟨rfl, ?_⟩
            repeat (first | exact Gr.refl _ | apply Gr.alloc | apply Gr.drewN | apply Gr.drew | (refine Gr.setCell ?_ (by simp) _) | (refine Gr.trans ?_ (by assumption)))
          · go_enter Try.func45, Try.ntmps45
            go_wp2
            refine bodyPost_ret (v := .tuple #[.agg #[.int .i64 (-b), .int .i64 d], .int .i64 0]) (by simp [results, Try.results45, go_sem]) rfl ⟨rfl, ?_⟩
            repeat (first | exact Gr.refl _ | apply Gr.alloc | apply Gr.drewN | apply Gr.drew | (refine Gr.setCell ?_ (by simp) _) | (refine Gr.trans ?_ (by assumption)))

theorem fit4_low (a b : Nat) : fit4 0 a 0 b = (fitB a && fitB b) := by simp [fit4, fitB]; rw [Bool.eq_iff_iff]; simp; omega


end Go.Proofs.Ytmcfpclhniahoaa
