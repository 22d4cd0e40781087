/-
  The reference's Make, where the signs are those of case ff: what it returns, in whatever world.
-/
import Derived.Test.YtmcfpclhniahoaaH
namespace Go.Proofs.Ytmcfpclhniahoaa
open Go.RowKit

set_option maxHeartbeats 2000000 in
theorem make21_ff (n d z1 z2 g q1 q2 : Int) (w : World) (d1 : -9223372036854775808 ≤ d) (d2 : d ≤ 9223372036854775807) (d3 : -9223372036854775808 ≤ n) (d4 : n ≤ 9223372036854775807)
    (Z1 : Hid (z1 = n.natAbs)) (Z2 : Hid (z2 = d.natAbs)) (G : Hid (g = (Nat.gcd n.natAbs d.natAbs : Nat)))
    (m1 : (d == 0) = false) (r1 : z1 / g = q1) (r2 : z2 / g = q2) (t1 : z1.tdiv g = q1) (t2 : z2.tdiv g = q2) (g0 : 1 ≤ g) (g1 : (g == 0) = false) (g2 : ¬ g = 0)
    (z10 : 0 ≤ z1) (z20 : 0 ≤ z2) (z11 : z1 < 18446744073709551616) (z21 : z2 < 18446744073709551616) (q10 : 0 ≤ q1) (q20 : 0 ≤ q2) (q11 : q1 < 18446744073709551616) (q21 : q2 < 18446744073709551616)
    (k1 : IntKind.u64.wrap q1 = q1) (k2 : IntKind.u64.wrap q2 = q2) (l0 : (0 : Int) ≤ 0) (l1 : (0 : Int) < 18446744073709551616)
    (sn : decide (n < 0) = false) (sd : decide (d < 0) = false) :
    Calls Try.prog 21 #[.int .i64 n, .int .i64 d] w fun e w' => e = .returned (.tuple #[.agg #[.int .i64 (selI (fit4 0 q1 0 q2) (sgn false q1)), .int .i64 (selI (fit4 0 q1 0 q2) q2)], .int .i64 (selE (fit4 0 q1 0 q2))]) ∧ Gr w w' := by
  have n01 : w.heap.size < w.heap.size + 1 + 1 := by omega
  have n02 : w.heap.size < w.heap.size + 1 + 1 + 1 := by omega
  have n12 : w.heap.size + 1 < w.heap.size + 1 + 1 + 1 := by omega
  go_enter Try.func21, Try.ntmps21
  go_wp2_with fail
  refine (size44_z n z1 _ Z1.out d3 d4).mono ?_
  rintro e w' ⟨rfl, rfl⟩
  go_wp2_with fail
  refine (size44_z d z2 _ Z2.out d1 d2).mono ?_
  rintro e w' ⟨rfl, rfl⟩
  go_wp2_with fail
  refine (common_z _ _ z1 z2 g _ Z1.out Z2.out G.out (by omega) (by omega)).mono ?_
  rintro e w1 ⟨rfl, hgw1⟩
  have hcw1 := Gr.cells hgw1
  have hfw1 := Gr.marks hgw1
  have hzzw1 := Gr.size hgw1
  try simp at hzzw1
  have hzw10 : w.heap.size < w1.heap.size := by omega
  clear hzzw1
  go_wp2
  have c10 : w1.cell? ⟨w.heap.size, 0, none⟩ = some (.int .i64 0) := by have := hcw1 w.heap.size 0 (by simp); simpa using this
  have c11 : w1.cell? ⟨w.heap.size, 1, none⟩ = some (.int .i64 0) := by have := hcw1 w.heap.size 1 (by simp); simpa using this
  have fr0 : w1.frozen? ⟨w.heap.size, 0, none⟩ = false := by rw [hfw1]; simp
  have fr1 : w1.frozen? ⟨w.heap.size, 1, none⟩ = false := by rw [hfw1]; simp
  clear hcw1 hfw1
  have hb0 : Gr w w1 := by
    repeat (first | exact Gr.refl _ | apply Gr.alloc | apply Gr.drewN | apply Gr.drew | (refine Gr.setCell ?_ (by simp) _) | (refine Gr.trans ?_ (by assumption)))
  refine wp_region_held_drew (S := fun w' => Gr w w') (by kernel_rfl) hb0.drew (fun hS0 => ?_)
  have hS : (fun w' => Gr w w') w1.drew := hS0
  refine wpAnyH_take (i := 0) (v := .int .i64 n) rfl (by kernel_rfl) (by kernel_rfl) (by kernel_rfl) (fun _ _ _ h => h) (Or.inl ⟨by rfl, ?_⟩) (by assumption) ?_
  · intro _ _; go_simp
  simp only [Act.put, List.setIfInBounds_toArray, List.set_cons_zero, List.set_cons_succ]
  refine wpAnyH_take (i := 1) (v := .bool false) rfl (by kernel_rfl) (by kernel_rfl) (by kernel_rfl) (fun _ _ _ h => h) (Or.inl ⟨by rfl, ?_⟩) (by assumption) ?_
  · intro _ _; go_simp
  simp only [Act.put, List.setIfInBounds_toArray, List.set_cons_zero, List.set_cons_succ]
  refine wpAnyH_take (i := 2) (v := .int .i64 d) rfl (by kernel_rfl) (by kernel_rfl) (by kernel_rfl) (fun _ _ _ h => h) (Or.inl ⟨by rfl, ?_⟩) (by assumption) ?_
  · intro _ _; go_simp
  simp only [Act.put, List.setIfInBounds_toArray, List.set_cons_zero, List.set_cons_succ]
  refine wpAnyH_take (i := 3) (v := .bool false) rfl (by kernel_rfl) (by kernel_rfl) (by kernel_rfl) (fun _ _ _ h => h) (Or.inl ⟨by rfl, ?_⟩) (by assumption) ?_
  · intro _ _; go_simp
  simp only [Act.put, List.setIfInBounds_toArray, List.set_cons_zero, List.set_cons_succ]
  refine wpAnyH_take (i := 4) (v := .bool false) rfl (by kernel_rfl) (by kernel_rfl) (by kernel_rfl) (fun _ _ _ h => h) (Or.inl ⟨by rfl, ?_⟩) (by assumption) ?_
  · intro _ _; go_simp
  simp only [Act.put, List.setIfInBounds_toArray, List.set_cons_zero, List.set_cons_succ]
  refine wpAnyH_take (i := 5) (v := .bool false) rfl (by kernel_rfl) (by kernel_rfl) (by kernel_rfl) (fun _ _ _ h => h) (Or.inl ⟨by rfl, ?_⟩) (by assumption) ?_
  · intro _ _; go_simp
  simp only [Act.put, List.setIfInBounds_toArray, List.set_cons_zero, List.set_cons_succ]
  refine wpAnyH_take (i := 6) (v := undef) rfl (by kernel_rfl) (by kernel_rfl) (by kernel_rfl) (fun _ _ _ h => h) (Or.inr ⟨by rfl, rfl⟩) (by assumption) ?_
  simp only [Act.put, List.setIfInBounds_toArray, List.set_cons_zero, List.set_cons_succ]
  refine wpAnyH_take (i := 7) (v := undef) rfl (by kernel_rfl) (by kernel_rfl) (by kernel_rfl) (fun _ _ _ h => h) (Or.inr ⟨by rfl, rfl⟩) (by assumption) ?_
  simp only [Act.put, List.setIfInBounds_toArray, List.set_cons_zero, List.set_cons_succ]
  refine wpAnyH_take (i := 8) (v := .bool false) rfl (by kernel_rfl) (by kernel_rfl) (by kernel_rfl) (fun _ _ _ h => h) (Or.inl ⟨by rfl, ?_⟩) (by assumption) ?_
  · intro _ _; go_simp
  simp only [Act.put, List.setIfInBounds_toArray, List.set_cons_zero, List.set_cons_succ]
  refine wpAnyH_take (i := 9) (v := .int .i64 n) rfl (by kernel_rfl) (by kernel_rfl) (by kernel_rfl) (fun _ _ _ h => h) (Or.inl ⟨by rfl, ?_⟩) (by assumption) ?_
  · intro _ _; go_simp
  simp only [Act.put, List.setIfInBounds_toArray, List.set_cons_zero, List.set_cons_succ]
  refine wpAnyH_take (i := 11) (v := .int .u64 g) rfl (by kernel_rfl) (by kernel_rfl) (by kernel_rfl) (fun _ _ _ h => h) (Or.inl ⟨by rfl, ?_⟩) (by assumption) ?_
  · intro _ _; go_simp
  simp only [Act.put, List.setIfInBounds_toArray, List.set_cons_zero, List.set_cons_succ]
  refine wpAnyH_take (i := 14) (v := .int .i64 d) rfl (by kernel_rfl) (by kernel_rfl) (by kernel_rfl) (fun _ _ _ h => h) (Or.inl ⟨by rfl, ?_⟩) (by assumption) ?_
  · intro _ _; go_simp
  simp only [Act.put, List.setIfInBounds_toArray, List.set_cons_zero, List.set_cons_succ]
  refine wpAnyH_take (i := 16) (v := .int .u64 g) rfl (by kernel_rfl) (by kernel_rfl) (by kernel_rfl) (fun _ _ _ h => h) (Or.inl ⟨by rfl, ?_⟩) (by assumption) ?_
  · intro _ _; go_simp
  simp only [Act.put, List.setIfInBounds_toArray, List.set_cons_zero, List.set_cons_succ]
  refine wpAnyH_ready (rs := [10]) (by kernel_rfl) (by simp) ?_
  refine AllReadyH.cons rfl (fun K hK => ?_) AllReadyH.nil
  go_simp
  refine (size44_z n z1 _ Z1.out d3 d4).mono ?_
  rintro e w' ⟨rfl, rfl⟩
  refine hK.out _ _ hS (fun _ => ?_)
  clear hK K
  refine wpAnyH_take (i := 12) (v := .int .u64 q1) rfl (by kernel_rfl) (by kernel_rfl) (by kernel_rfl) (fun _ _ _ h => h) (Or.inl ⟨by rfl, ?_⟩) (by assumption) ?_
  · intro _ _; go_simp
  simp only [Act.put, List.setIfInBounds_toArray, List.set_cons_zero, List.set_cons_succ]
  refine wpAnyH_take (i := 13) (v := .agg #[.bool false, .int .u64 0, .int .u64 q1]) rfl (by kernel_rfl) (by kernel_rfl) (by kernel_rfl) (fun _ _ _ h => h) (Or.inl ⟨by rfl, ?_⟩) (by assumption) ?_
  · intro _ _; go_simp
  simp only [Act.put, List.setIfInBounds_toArray, List.set_cons_zero, List.set_cons_succ]
  refine wpAnyH_ready (rs := [15]) (by kernel_rfl) (by simp) ?_
  refine AllReadyH.cons rfl (fun K hK => ?_) AllReadyH.nil
  go_simp
  refine (size44_z d z2 _ Z2.out d1 d2).mono ?_
  rintro e w' ⟨rfl, rfl⟩
  refine hK.out _ _ hS (fun _ => ?_)
  clear hK K
  refine wpAnyH_take (i := 17) (v := .int .u64 q2) rfl (by kernel_rfl) (by kernel_rfl) (by kernel_rfl) (fun _ _ _ h => h) (Or.inl ⟨by rfl, ?_⟩) (by assumption) ?_
  · intro _ _; go_simp
  simp only [Act.put, List.setIfInBounds_toArray, List.set_cons_zero, List.set_cons_succ]
  refine wpAnyH_take (i := 18) (v := .agg #[.bool false, .int .u64 0, .int .u64 q2]) rfl (by kernel_rfl) (by kernel_rfl) (by kernel_rfl) (fun _ _ _ h => h) (Or.inl ⟨by rfl, ?_⟩) (by assumption) ?_
  · intro _ _; go_simp
  simp only [Act.put, List.setIfInBounds_toArray, List.set_cons_zero, List.set_cons_succ]
  refine wpAnyH_ready (rs := [19]) (by kernel_rfl) (by simp) ?_
  refine AllReadyH.cons rfl (fun K hK => ?_) AllReadyH.nil
  go_simp
  refine (made45_any false false false 0 q1 0 q2 _ l0 q10 l0 q20 l1 q11 l1 q21).mono ?_
  rintro e w2 ⟨rfl, hgw2⟩
  have hcw2 := Gr.cells hgw2
  have hfw2 := Gr.marks hgw2
  have e0 : w2.cell? ⟨w.heap.size, 0, none⟩ = some (.int .i64 0) := (hcw2 _ _ hzw10).trans c10
  have e1 : w2.cell? ⟨w.heap.size, 1, none⟩ = some (.int .i64 0) := (hcw2 _ _ hzw10).trans c11
  have e2 : w2.frozen? ⟨w.heap.size, 0, none⟩ = false := (hfw2 _).trans fr0
  have e3 : w2.frozen? ⟨w.heap.size, 1, none⟩ = false := (hfw2 _).trans fr1
  clear hcw2 hfw2
  have hG2 : Gr w w2 := hb0.drew.trans hgw2
  have hS2 : (fun w' => Gr w w') w2 := hG2
  have hzw2 : w.heap.size < w2.heap.size := Nat.lt_of_lt_of_le (m := w1.drew.heap.size) hzw10 (Gr.size hgw2)
  refine hK.out _ _ hS2 (fun _ => ?_)
  clear hK K
  refine wpAnyH_take (i := 20) (v := .agg #[.int .i64 (selI (fit4 0 q1 0 q2) (sgn false q1)), .int .i64 (selI (fit4 0 q1 0 q2) q2)]) rfl (by kernel_rfl) (by kernel_rfl) (by kernel_rfl) (fun _ _ _ h => h) (Or.inl ⟨by rfl, ?_⟩) (by assumption) ?_
  · intro _ _; go_simp
  simp only [Act.put, List.setIfInBounds_toArray, List.set_cons_zero, List.set_cons_succ]
  refine wpAnyH_take (i := 21) (v := .int .i64 (selE (fit4 0 q1 0 q2))) rfl (by kernel_rfl) (by kernel_rfl) (by kernel_rfl) (fun _ _ _ h => h) (Or.inl ⟨by rfl, ?_⟩) (by assumption) ?_
  · intro _ _; go_simp
  simp only [Act.put, List.setIfInBounds_toArray, List.set_cons_zero, List.set_cons_succ]
  refine wpAnyH_ready (rs := [22]) (by kernel_rfl) (by simp) ?_
  refine AllReadyH.cons rfl (fun K hK => ?_) AllReadyH.nil
  go_simp
  refine hK.out _ _ (Gr.setCell (Gr.setCell hG2 (Nat.le_refl _) _) (Nat.le_refl _) _) (fun _ => ?_)
  clear hK K
  have hS3 : (fun w' => Gr w w') _ := Gr.setCell (Gr.setCell (p := ⟨w.heap.size, 0, none⟩) hG2 (Nat.le_refl _) (.int .i64 (selI (fit4 0 q1 0 q2) (sgn false q1)))) (p := ⟨w.heap.size, 1, none⟩) (Nat.le_refl _) (.int .i64 (selI (fit4 0 q1 0 q2) q2))
  refine wpAnyH_take (i := 23) (v := .int .i64 (selE (fit4 0 q1 0 q2))) rfl (by kernel_rfl) (by kernel_rfl) (by kernel_rfl) (fun _ _ _ h => h) (Or.inl ⟨by rfl, ?_⟩) (by assumption) ?_
  · intro _ _; go_simp
  simp only [Act.put, List.setIfInBounds_toArray, List.set_cons_zero, List.set_cons_succ]
  refine wpAnyH_done (by kernel_rfl) ?_ _
  go_wp2
  refine bodyPost_ret (v := .tuple #[.agg #[.int .i64 (selI (fit4 0 q1 0 q2) (sgn false q1)), .int .i64 (selI (fit4 0 q1 0 q2) q2)], .int .i64 (selE (fit4 0 q1 0 q2))]) (by simp [results, Try.results21, go_sem, *]) rfl ⟨rfl, ?_⟩
  exact Gr.setCell (Gr.setCell hG2 (Nat.le_refl _) _) (Nat.le_refl _) _

end Go.Proofs.Ytmcfpclhniahoaa
