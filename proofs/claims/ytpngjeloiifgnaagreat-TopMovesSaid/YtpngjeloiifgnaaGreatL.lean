/-
  The walk of Mul, where both fractions are valid: each callee by its contract. Conditions: none.
-/
import Derived.Test.YtpngjeloiifgnaaGreatW24
import Derived.Test.YtpngjeloiifgnaaGreatW4
namespace Go.Proofs.YtpngjeloiifgnaaGreat
open Go.RowKit
theorem fresh_frozen {w : World} {b o : Nat} (h : w.heap.size ≤ b) : w.frozen? ⟨b, o, none⟩ = false := by simp [World.frozen?, Array.getElem?_eq_none h]

set_option maxRecDepth 100000 in
set_option maxHeartbeats 2000000 in
theorem mul_core (a b c d g h A B C D z1 z2 z3 z4 ph pl qh ql N M : Int) (f1 f2 : Bool) (w : World)
    (CB : Hid (∀ w, Calls Tryz.prog 91 #[.agg #[.int .i64 a, .int .i64 b], .agg #[.int .i64 c, .int .i64 d]] w fun e w' => e = .returned (.int .i64 0) ∧ Gr w w'))
    (S1 : Hid (∀ w, Calls Tryz.prog 94 #[.int .i64 a] w fun e w' => e = .returned (.int .u64 z1) ∧ w = w'))
    (S2 : Hid (∀ w, Calls Tryz.prog 94 #[.int .i64 d] w fun e w' => e = .returned (.int .u64 z2) ∧ w = w'))
    (S3 : Hid (∀ w, Calls Tryz.prog 94 #[.int .i64 c] w fun e w' => e = .returned (.int .u64 z3) ∧ w = w'))
    (S4 : Hid (∀ w, Calls Tryz.prog 94 #[.int .i64 b] w fun e w' => e = .returned (.int .u64 z4) ∧ w = w'))
    (D1 : Hid (∀ w, Calls Tryz.prog 93 #[.int .u64 z1, .int .u64 z2] w fun e w' => e = .returned (.int .u64 g) ∧ Gr w w'))
    (D2 : Hid (∀ w, Calls Tryz.prog 93 #[.int .u64 z3, .int .u64 z4] w fun e w' => e = .returned (.int .u64 h) ∧ Gr w w'))
    (P1 : Hid (∀ w, Calls Tryz.prog 95 #[.int .i64 A, .int .i64 C] w fun e w' => e = .returned (.agg #[.int .u64 ph, .int .u64 pl]) ∧ Gr w w'))
    (P2 : Hid (∀ w, Calls Tryz.prog 95 #[.int .i64 B, .int .i64 D] w fun e w' => e = .returned (.agg #[.int .u64 qh, .int .u64 ql]) ∧ Gr w w'))
    (V1 : Hid (∀ w, Calls Tryz.prog 96 #[.agg #[.int .u64 ph, .int .u64 pl], .int .u64 1] w fun e w' => e = .returned (.tuple #[.int .i64 N, .bool f1]) ∧ Gr w w'))
    (V2 : Hid (∀ w, Calls Tryz.prog 96 #[.agg #[.int .u64 qh, .int .u64 ql], .int .u64 1] w fun e w' => e = .returned (.tuple #[.int .i64 M, .bool f2]) ∧ Gr w w'))
    (kg : IntKind.i64.wrap g = g) (kh : IntKind.i64.wrap h = h) (g1 : (g == 0) = false) (g2 : ¬ g = 0) (h1 : (h == 0) = false) (h2 : ¬ h = 0)
    (tA : a.tdiv g = A) (kA : IntKind.i64.wrap A = A) (tC : c.tdiv h = C) (kC : IntKind.i64.wrap C = C) (tB : b.tdiv h = B) (kB : IntKind.i64.wrap B = B) (tD : d.tdiv g = D) (kD : IntKind.i64.wrap D = D) :
    Calls Tryz.prog 48 #[.agg #[.int .i64 a, .int .i64 b], .agg #[.int .i64 c, .int .i64 d]] w fun e w' => e = .returned (.tuple #[.agg #[.int .i64 (selI (f1 && f2) N), .int .i64 (selI (f1 && f2) M)], .int .i64 (selE (f1 && f2))]) ∧ Gr w w' := by
  cases f1
  · have n01 : w.heap.size < w.heap.size + 1 + 1 := by omega
    have n02 : w.heap.size < w.heap.size + 1 + 1 + 1 := by omega
    have n12 : w.heap.size + 1 < w.heap.size + 1 + 1 + 1 := by omega
    go_enter Tryz.func48, Tryz.ntmps48
    go_wp2_with fail
    refine (CB.out _).mono ?_
    rintro e w1 ⟨rfl, hgw1⟩
    have hc := Gr.cells hgw1
    have hfmw1 := Gr.marks hgw1
    have hzz := Gr.size hgw1
    try simp at hzz
    have zw1w : w.heap.size < w1.heap.size := by omega
    have zw1wp1 : w.heap.size + 1 < w1.heap.size := by omega
    have zw1wp1p1 : w.heap.size + 1 + 1 < w1.heap.size := by omega
    have cw1w0 : w1.cell? ⟨w.heap.size, 0, none⟩ = some (.int .i64 a) := by rw [hc _ _ (by first | assumption | (simp; done) | (simp; omega))]; first | assumption | go_simp
    have cw1w1 : w1.cell? ⟨w.heap.size, 1, none⟩ = some (.int .i64 b) := by rw [hc _ _ (by first | assumption | (simp; done) | (simp; omega))]; first | assumption | go_simp
    have cw1wp10 : w1.cell? ⟨w.heap.size + 1, 0, none⟩ = some (.int .i64 c) := by rw [hc _ _ (by first | assumption | (simp; done) | (simp; omega))]; first | assumption | go_simp
    have cw1wp11 : w1.cell? ⟨w.heap.size + 1, 1, none⟩ = some (.int .i64 d) := by rw [hc _ _ (by first | assumption | (simp; done) | (simp; omega))]; first | assumption | go_simp
    have cw1wp1p10 : w1.cell? ⟨w.heap.size + 1 + 1, 0, none⟩ = some (.int .i64 0) := by rw [hc _ _ (by first | assumption | (simp; done) | (simp; omega))]; first | assumption | go_simp
    have cw1wp1p11 : w1.cell? ⟨w.heap.size + 1 + 1, 1, none⟩ = some (.int .i64 0) := by rw [hc _ _ (by first | assumption | (simp; done) | (simp; omega))]; first | assumption | go_simp
    clear hc hzz
    have fzw10 : w1.frozen? ⟨w.heap.size + 1 + 1, 0, none⟩ = false := by rw [hfmw1 _ _ (by first | assumption | (simp; done) | (simp; omega))]; first | assumption | (simp only [frozen?_alloc_cells]; exact fresh_frozen (by omega))
    have fzw11 : w1.frozen? ⟨w.heap.size + 1 + 1, 1, none⟩ = false := by rw [hfmw1 _ _ (by first | assumption | (simp; done) | (simp; omega))]; first | assumption | (simp only [frozen?_alloc_cells]; exact fresh_frozen (by omega))
    clear hfmw1
    go_wp2_with fail
    have xcw1w0 := ext_cell_some cw1w0
    have xcw1w1 := ext_cell_some cw1w1
    have xcw1wp10 := ext_cell_some cw1wp10
    have xcw1wp11 := ext_cell_some cw1wp11
    have xcw1wp1p10 := ext_cell_some cw1wp1p10
    have xcw1wp1p11 := ext_cell_some cw1wp1p11
    refine wp_region_gr (by kernel_rfl) (by kernel_rfl) ?_
    repeat (go_big_quiet_step ((first | (go_at_call 94; first | (with_reducible exact calls_ext_same (S1.out _)) | (with_reducible exact calls_ext_same (S2.out _))) | (go_at_call 93; exact calls_ext (D1.out _)))))
    refine wpQuiet_nil ?_
    intro w2 hw'
    obtain ⟨y, hy⟩ := hw'
    have hgw2 : Gr w1 w2 := hy ▸ y.gr
    clear hy y xcw1w0 xcw1w1 xcw1wp10 xcw1wp11 xcw1wp1p10 xcw1wp1p11
    have hc := Gr.cells hgw2
    have hfmw2 := Gr.marks hgw2
    have hzz := Gr.size hgw2
    have zw2w : w.heap.size < w2.heap.size := by omega
    have zw2wp1 : w.heap.size + 1 < w2.heap.size := by omega
    have zw2wp1p1 : w.heap.size + 1 + 1 < w2.heap.size := by omega
    have cw2w0 : w2.cell? ⟨w.heap.size, 0, none⟩ = some (.int .i64 a) := (hc _ _ (by assumption)).trans (by assumption)
    have cw2w1 : w2.cell? ⟨w.heap.size, 1, none⟩ = some (.int .i64 b) := (hc _ _ (by assumption)).trans (by assumption)
    have cw2wp10 : w2.cell? ⟨w.heap.size + 1, 0, none⟩ = some (.int .i64 c) := (hc _ _ (by assumption)).trans (by assumption)
    have cw2wp11 : w2.cell? ⟨w.heap.size + 1, 1, none⟩ = some (.int .i64 d) := (hc _ _ (by assumption)).trans (by assumption)
    have cw2wp1p10 : w2.cell? ⟨w.heap.size + 1 + 1, 0, none⟩ = some (.int .i64 0) := (hc _ _ (by assumption)).trans (by assumption)
    have cw2wp1p11 : w2.cell? ⟨w.heap.size + 1 + 1, 1, none⟩ = some (.int .i64 0) := (hc _ _ (by assumption)).trans (by assumption)
    clear hc hzz
    have fzw20 : w2.frozen? ⟨w.heap.size + 1 + 1, 0, none⟩ = false := (hfmw2 _ _ (by first | assumption | (simp; done) | omega)).trans (by assumption)
    have fzw21 : w2.frozen? ⟨w.heap.size + 1 + 1, 1, none⟩ = false := (hfmw2 _ _ (by first | assumption | (simp; done) | omega)).trans (by assumption)
    clear fzw10 fzw11
    clear hfmw2
    clear cw1w0 cw1w1 cw1wp10 cw1wp11 cw1wp1p10 cw1wp1p11
    go_wp2_with fail
    have xcw2w0 := ext_cell_some cw2w0
    have xcw2w1 := ext_cell_some cw2w1
    have xcw2wp10 := ext_cell_some cw2wp10
    have xcw2wp11 := ext_cell_some cw2wp11
    have xcw2wp1p10 := ext_cell_some cw2wp1p10
    have xcw2wp1p11 := ext_cell_some cw2wp1p11
    refine wp_region_gr (by kernel_rfl) (by kernel_rfl) ?_
    repeat (go_big_quiet_step ((first | (go_at_call 94; first | (with_reducible exact calls_ext_same (S3.out _)) | (with_reducible exact calls_ext_same (S4.out _))) | (go_at_call 93; exact calls_ext (D2.out _)))))
    refine wpQuiet_nil ?_
    intro w3 hw'
    obtain ⟨y, hy⟩ := hw'
    have hgw3 : Gr w2 w3 := hy ▸ y.gr
    clear hy y xcw2w0 xcw2w1 xcw2wp10 xcw2wp11 xcw2wp1p10 xcw2wp1p11
    have hc := Gr.cells hgw3
    have hfmw3 := Gr.marks hgw3
    have hzz := Gr.size hgw3
    have zw3w : w.heap.size < w3.heap.size := by omega
    have zw3wp1 : w.heap.size + 1 < w3.heap.size := by omega
    have zw3wp1p1 : w.heap.size + 1 + 1 < w3.heap.size := by omega
    have cw3w0 : w3.cell? ⟨w.heap.size, 0, none⟩ = some (.int .i64 a) := (hc _ _ (by assumption)).trans (by assumption)
    have cw3w1 : w3.cell? ⟨w.heap.size, 1, none⟩ = some (.int .i64 b) := (hc _ _ (by assumption)).trans (by assumption)
    have cw3wp10 : w3.cell? ⟨w.heap.size + 1, 0, none⟩ = some (.int .i64 c) := (hc _ _ (by assumption)).trans (by assumption)
    have cw3wp11 : w3.cell? ⟨w.heap.size + 1, 1, none⟩ = some (.int .i64 d) := (hc _ _ (by assumption)).trans (by assumption)
    have cw3wp1p10 : w3.cell? ⟨w.heap.size + 1 + 1, 0, none⟩ = some (.int .i64 0) := (hc _ _ (by assumption)).trans (by assumption)
    have cw3wp1p11 : w3.cell? ⟨w.heap.size + 1 + 1, 1, none⟩ = some (.int .i64 0) := (hc _ _ (by assumption)).trans (by assumption)
    clear hc hzz
    have fzw30 : w3.frozen? ⟨w.heap.size + 1 + 1, 0, none⟩ = false := (hfmw3 _ _ (by first | assumption | (simp; done) | omega)).trans (by assumption)
    have fzw31 : w3.frozen? ⟨w.heap.size + 1 + 1, 1, none⟩ = false := (hfmw3 _ _ (by first | assumption | (simp; done) | omega)).trans (by assumption)
    clear fzw20 fzw21
    clear hfmw3
    clear cw2w0 cw2w1 cw2wp10 cw2wp11 cw2wp1p10 cw2wp1p11
    go_wp2_with fail
    have xcw3w0 := ext_cell_some cw3w0
    have xcw3w1 := ext_cell_some cw3w1
    have xcw3wp10 := ext_cell_some cw3wp10
    have xcw3wp11 := ext_cell_some cw3wp11
    have xcw3wp1p10 := ext_cell_some cw3wp1p10
    have xcw3wp1p11 := ext_cell_some cw3wp1p11
    refine wp_region_gr (by kernel_rfl) (by kernel_rfl) ?_
    repeat (go_big_quiet_step ((first | (go_at_call 95; exact calls_ext (P1.out _)) | (go_at_call 96; exact calls_ext (V1.out _)))))
    refine wpQuiet_nil ?_
    intro w4 hw'
    obtain ⟨y, hy⟩ := hw'
    have hgw4 : Gr w3 w4 := hy ▸ y.gr
    clear hy y xcw3w0 xcw3w1 xcw3wp10 xcw3wp11 xcw3wp1p10 xcw3wp1p11
    have hc := Gr.cells hgw4
    have hfmw4 := Gr.marks hgw4
    have hzz := Gr.size hgw4
    have zw4w : w.heap.size < w4.heap.size := by omega
    have zw4wp1 : w.heap.size + 1 < w4.heap.size := by omega
    have zw4wp1p1 : w.heap.size + 1 + 1 < w4.heap.size := by omega
    have cw4w0 : w4.cell? ⟨w.heap.size, 0, none⟩ = some (.int .i64 a) := (hc _ _ (by assumption)).trans (by assumption)
    have cw4w1 : w4.cell? ⟨w.heap.size, 1, none⟩ = some (.int .i64 b) := (hc _ _ (by assumption)).trans (by assumption)
    have cw4wp10 : w4.cell? ⟨w.heap.size + 1, 0, none⟩ = some (.int .i64 c) := (hc _ _ (by assumption)).trans (by assumption)
    have cw4wp11 : w4.cell? ⟨w.heap.size + 1, 1, none⟩ = some (.int .i64 d) := (hc _ _ (by assumption)).trans (by assumption)
    have cw4wp1p10 : w4.cell? ⟨w.heap.size + 1 + 1, 0, none⟩ = some (.int .i64 0) := (hc _ _ (by assumption)).trans (by assumption)
    have cw4wp1p11 : w4.cell? ⟨w.heap.size + 1 + 1, 1, none⟩ = some (.int .i64 0) := (hc _ _ (by assumption)).trans (by assumption)
    clear hc hzz
    have fzw40 : w4.frozen? ⟨w.heap.size + 1 + 1, 0, none⟩ = false := (hfmw4 _ _ (by first | assumption | (simp; done) | omega)).trans (by assumption)
    have fzw41 : w4.frozen? ⟨w.heap.size + 1 + 1, 1, none⟩ = false := (hfmw4 _ _ (by first | assumption | (simp; done) | omega)).trans (by assumption)
    clear fzw30 fzw31
    clear hfmw4
    clear cw3w0 cw3w1 cw3wp10 cw3wp11 cw3wp1p10 cw3wp1p11
    go_wp2_with fail
    have xcw4w0 := ext_cell_some cw4w0
    have xcw4w1 := ext_cell_some cw4w1
    have xcw4wp10 := ext_cell_some cw4wp10
    have xcw4wp11 := ext_cell_some cw4wp11
    have xcw4wp1p10 := ext_cell_some cw4wp1p10
    have xcw4wp1p11 := ext_cell_some cw4wp1p11
    refine wp_region_gr (by kernel_rfl) (by kernel_rfl) ?_
    repeat (go_big_quiet_step ((first | (go_at_call 95; exact calls_ext (P2.out _)) | (go_at_call 96; exact calls_ext (V2.out _)))))
    refine wpQuiet_nil ?_
    intro w5 hw'
    obtain ⟨y, hy⟩ := hw'
    have hgw5 : Gr w4 w5 := hy ▸ y.gr
    clear hy y xcw4w0 xcw4w1 xcw4wp10 xcw4wp11 xcw4wp1p10 xcw4wp1p11
    have hc := Gr.cells hgw5
    have hfmw5 := Gr.marks hgw5
    have hzz := Gr.size hgw5
    have zw5w : w.heap.size < w5.heap.size := by omega
    have zw5wp1 : w.heap.size + 1 < w5.heap.size := by omega
    have zw5wp1p1 : w.heap.size + 1 + 1 < w5.heap.size := by omega
    have cw5w0 : w5.cell? ⟨w.heap.size, 0, none⟩ = some (.int .i64 a) := (hc _ _ (by assumption)).trans (by assumption)
    have cw5w1 : w5.cell? ⟨w.heap.size, 1, none⟩ = some (.int .i64 b) := (hc _ _ (by assumption)).trans (by assumption)
    have cw5wp10 : w5.cell? ⟨w.heap.size + 1, 0, none⟩ = some (.int .i64 c) := (hc _ _ (by assumption)).trans (by assumption)
    have cw5wp11 : w5.cell? ⟨w.heap.size + 1, 1, none⟩ = some (.int .i64 d) := (hc _ _ (by assumption)).trans (by assumption)
    have cw5wp1p10 : w5.cell? ⟨w.heap.size + 1 + 1, 0, none⟩ = some (.int .i64 0) := (hc _ _ (by assumption)).trans (by assumption)
    have cw5wp1p11 : w5.cell? ⟨w.heap.size + 1 + 1, 1, none⟩ = some (.int .i64 0) := (hc _ _ (by assumption)).trans (by assumption)
    clear hc hzz
    have fzw50 : w5.frozen? ⟨w.heap.size + 1 + 1, 0, none⟩ = false := (hfmw5 _ _ (by first | assumption | (simp; done) | omega)).trans (by assumption)
    have fzw51 : w5.frozen? ⟨w.heap.size + 1 + 1, 1, none⟩ = false := (hfmw5 _ _ (by first | assumption | (simp; done) | omega)).trans (by assumption)
    clear fzw40 fzw41
    clear hfmw5
    clear cw4w0 cw4w1 cw4wp10 cw4wp11 cw4wp1p10 cw4wp1p11
    go_wp2_with fail
    refine (result_any _ _ _ _).mono ?_
    rintro e w6 ⟨rfl, hgw6⟩
    have hc := Gr.cells hgw6
    have hfmw6 := Gr.marks hgw6
    have hzz := Gr.size hgw6
    try simp at hzz
    have zw6w : w.heap.size < w6.heap.size := by omega
    have zw6wp1 : w.heap.size + 1 < w6.heap.size := by omega
    have zw6wp1p1 : w.heap.size + 1 + 1 < w6.heap.size := by omega
    have cw6w0 : w6.cell? ⟨w.heap.size, 0, none⟩ = some (.int .i64 a) := by rw [hc _ _ (by first | assumption | (simp; done) | (simp; omega))]; first | assumption | go_simp
    have cw6w1 : w6.cell? ⟨w.heap.size, 1, none⟩ = some (.int .i64 b) := by rw [hc _ _ (by first | assumption | (simp; done) | (simp; omega))]; first | assumption | go_simp
    have cw6wp10 : w6.cell? ⟨w.heap.size + 1, 0, none⟩ = some (.int .i64 c) := by rw [hc _ _ (by first | assumption | (simp; done) | (simp; omega))]; first | assumption | go_simp
    have cw6wp11 : w6.cell? ⟨w.heap.size + 1, 1, none⟩ = some (.int .i64 d) := by rw [hc _ _ (by first | assumption | (simp; done) | (simp; omega))]; first | assumption | go_simp
    have cw6wp1p10 : w6.cell? ⟨w.heap.size + 1 + 1, 0, none⟩ = some (.int .i64 0) := by rw [hc _ _ (by first | assumption | (simp; done) | (simp; omega))]; first | assumption | go_simp
    have cw6wp1p11 : w6.cell? ⟨w.heap.size + 1 + 1, 1, none⟩ = some (.int .i64 0) := by rw [hc _ _ (by first | assumption | (simp; done) | (simp; omega))]; first | assumption | go_simp
    clear hc hzz
    have fzw60 : w6.frozen? ⟨w.heap.size + 1 + 1, 0, none⟩ = false := by rw [hfmw6 _ _ (by first | assumption | (simp; done) | (simp; omega))]; first | assumption | (simp only [frozen?_alloc_cells]; exact fresh_frozen (by omega))
    have fzw61 : w6.frozen? ⟨w.heap.size + 1 + 1, 1, none⟩ = false := by rw [hfmw6 _ _ (by first | assumption | (simp; done) | (simp; omega))]; first | assumption | (simp only [frozen?_alloc_cells]; exact fresh_frozen (by omega))
    clear fzw50 fzw51
    clear hfmw6
    clear cw5w0 cw5w1 cw5wp10 cw5wp11 cw5wp1p10 cw5wp1p11
    go_wp2
    refine bodyPost_ret (v := .tuple #[.agg #[.int .i64 (selI (false && f2) N), .int .i64 (selI (false && f2) M)], .int .i64 (selE (false && f2))]) (by simp [results, Tryz.results48, go_sem, *]) rfl ⟨rfl, ?_⟩
    repeat (first | exact Gr.refl _ | apply Gr.alloc | apply Gr.drewN | apply Gr.drew | (refine Gr.setCell ?_ (by first | (simp; done) | (simp; omega)) _) | (refine Gr.trans ?_ (by assumption)))
  · have n01 : w.heap.size < w.heap.size + 1 + 1 := by omega
    have n02 : w.heap.size < w.heap.size + 1 + 1 + 1 := by omega
    have n12 : w.heap.size + 1 < w.heap.size + 1 + 1 + 1 := by omega
    go_enter Tryz.func48, Tryz.ntmps48
    go_wp2_with fail
    refine (CB.out _).mono ?_
    rintro e w1 ⟨rfl, hgw1⟩
    have hc := Gr.cells hgw1
    have hfmw1 := Gr.marks hgw1
    have hzz := Gr.size hgw1
    try simp at hzz
    have zw1w : w.heap.size < w1.heap.size := by omega
    have zw1wp1 : w.heap.size + 1 < w1.heap.size := by omega
    have zw1wp1p1 : w.heap.size + 1 + 1 < w1.heap.size := by omega
    have cw1w0 : w1.cell? ⟨w.heap.size, 0, none⟩ = some (.int .i64 a) := by rw [hc _ _ (by first | assumption | (simp; done) | (simp; omega))]; first | assumption | go_simp
    have cw1w1 : w1.cell? ⟨w.heap.size, 1, none⟩ = some (.int .i64 b) := by rw [hc _ _ (by first | assumption | (simp; done) | (simp; omega))]; first | assumption | go_simp
    have cw1wp10 : w1.cell? ⟨w.heap.size + 1, 0, none⟩ = some (.int .i64 c) := by rw [hc _ _ (by first | assumption | (simp; done) | (simp; omega))]; first | assumption | go_simp
    have cw1wp11 : w1.cell? ⟨w.heap.size + 1, 1, none⟩ = some (.int .i64 d) := by rw [hc _ _ (by first | assumption | (simp; done) | (simp; omega))]; first | assumption | go_simp
    have cw1wp1p10 : w1.cell? ⟨w.heap.size + 1 + 1, 0, none⟩ = some (.int .i64 0) := by rw [hc _ _ (by first | assumption | (simp; done) | (simp; omega))]; first | assumption | go_simp
    have cw1wp1p11 : w1.cell? ⟨w.heap.size + 1 + 1, 1, none⟩ = some (.int .i64 0) := by rw [hc _ _ (by first | assumption | (simp; done) | (simp; omega))]; first | assumption | go_simp
    clear hc hzz
    have fzw10 : w1.frozen? ⟨w.heap.size + 1 + 1, 0, none⟩ = false := by rw [hfmw1 _ _ (by first | assumption | (simp; done) | (simp; omega))]; first | assumption | (simp only [frozen?_alloc_cells]; exact fresh_frozen (by omega))
    have fzw11 : w1.frozen? ⟨w.heap.size + 1 + 1, 1, none⟩ = false := by rw [hfmw1 _ _ (by first | assumption | (simp; done) | (simp; omega))]; first | assumption | (simp only [frozen?_alloc_cells]; exact fresh_frozen (by omega))
    clear hfmw1
    go_wp2_with fail
    have xcw1w0 := ext_cell_some cw1w0
    have xcw1w1 := ext_cell_some cw1w1
    have xcw1wp10 := ext_cell_some cw1wp10
    have xcw1wp11 := ext_cell_some cw1wp11
    have xcw1wp1p10 := ext_cell_some cw1wp1p10
    have xcw1wp1p11 := ext_cell_some cw1wp1p11
    refine wp_region_gr (by kernel_rfl) (by kernel_rfl) ?_
    repeat (go_big_quiet_step ((first | (go_at_call 94; first | (with_reducible exact calls_ext_same (S1.out _)) | (with_reducible exact calls_ext_same (S2.out _))) | (go_at_call 93; exact calls_ext (D1.out _)))))
    refine wpQuiet_nil ?_
    intro w2 hw'
    obtain ⟨y, hy⟩ := hw'
    have hgw2 : Gr w1 w2 := hy ▸ y.gr
    clear hy y xcw1w0 xcw1w1 xcw1wp10 xcw1wp11 xcw1wp1p10 xcw1wp1p11
    have hc := Gr.cells hgw2
    have hfmw2 := Gr.marks hgw2
    have hzz := Gr.size hgw2
    have zw2w : w.heap.size < w2.heap.size := by omega
    have zw2wp1 : w.heap.size + 1 < w2.heap.size := by omega
    have zw2wp1p1 : w.heap.size + 1 + 1 < w2.heap.size := by omega
    have cw2w0 : w2.cell? ⟨w.heap.size, 0, none⟩ = some (.int .i64 a) := (hc _ _ (by assumption)).trans (by assumption)
    have cw2w1 : w2.cell? ⟨w.heap.size, 1, none⟩ = some (.int .i64 b) := (hc _ _ (by assumption)).trans (by assumption)
    have cw2wp10 : w2.cell? ⟨w.heap.size + 1, 0, none⟩ = some (.int .i64 c) := (hc _ _ (by assumption)).trans (by assumption)
    have cw2wp11 : w2.cell? ⟨w.heap.size + 1, 1, none⟩ = some (.int .i64 d) := (hc _ _ (by assumption)).trans (by assumption)
    have cw2wp1p10 : w2.cell? ⟨w.heap.size + 1 + 1, 0, none⟩ = some (.int .i64 0) := (hc _ _ (by assumption)).trans (by assumption)
    have cw2wp1p11 : w2.cell? ⟨w.heap.size + 1 + 1, 1, none⟩ = some (.int .i64 0) := (hc _ _ (by assumption)).trans (by assumption)
    clear hc hzz
    have fzw20 : w2.frozen? ⟨w.heap.size + 1 + 1, 0, none⟩ = false := (hfmw2 _ _ (by first | assumption | (simp; done) | omega)).trans (by assumption)
    have fzw21 : w2.frozen? ⟨w.heap.size + 1 + 1, 1, none⟩ = false := (hfmw2 _ _ (by first | assumption | (simp; done) | omega)).trans (by assumption)
    clear fzw10 fzw11
    clear hfmw2
    clear cw1w0 cw1w1 cw1wp10 cw1wp11 cw1wp1p10 cw1wp1p11
    go_wp2_with fail
    have xcw2w0 := ext_cell_some cw2w0
    have xcw2w1 := ext_cell_some cw2w1
    have xcw2wp10 := ext_cell_some cw2wp10
    have xcw2wp11 := ext_cell_some cw2wp11
    have xcw2wp1p10 := ext_cell_some cw2wp1p10
    have xcw2wp1p11 := ext_cell_some cw2wp1p11
    refine wp_region_gr (by kernel_rfl) (by kernel_rfl) ?_
    repeat (go_big_quiet_step ((first | (go_at_call 94; first | (with_reducible exact calls_ext_same (S3.out _)) | (with_reducible exact calls_ext_same (S4.out _))) | (go_at_call 93; exact calls_ext (D2.out _)))))
    refine wpQuiet_nil ?_
    intro w3 hw'
    obtain ⟨y, hy⟩ := hw'
    have hgw3 : Gr w2 w3 := hy ▸ y.gr
    clear hy y xcw2w0 xcw2w1 xcw2wp10 xcw2wp11 xcw2wp1p10 xcw2wp1p11
    have hc := Gr.cells hgw3
    have hfmw3 := Gr.marks hgw3
    have hzz := Gr.size hgw3
    have zw3w : w.heap.size < w3.heap.size := by omega
    have zw3wp1 : w.heap.size + 1 < w3.heap.size := by omega
    have zw3wp1p1 : w.heap.size + 1 + 1 < w3.heap.size := by omega
    have cw3w0 : w3.cell? ⟨w.heap.size, 0, none⟩ = some (.int .i64 a) := (hc _ _ (by assumption)).trans (by assumption)
    have cw3w1 : w3.cell? ⟨w.heap.size, 1, none⟩ = some (.int .i64 b) := (hc _ _ (by assumption)).trans (by assumption)
    have cw3wp10 : w3.cell? ⟨w.heap.size + 1, 0, none⟩ = some (.int .i64 c) := (hc _ _ (by assumption)).trans (by assumption)
    have cw3wp11 : w3.cell? ⟨w.heap.size + 1, 1, none⟩ = some (.int .i64 d) := (hc _ _ (by assumption)).trans (by assumption)
    have cw3wp1p10 : w3.cell? ⟨w.heap.size + 1 + 1, 0, none⟩ = some (.int .i64 0) := (hc _ _ (by assumption)).trans (by assumption)
    have cw3wp1p11 : w3.cell? ⟨w.heap.size + 1 + 1, 1, none⟩ = some (.int .i64 0) := (hc _ _ (by assumption)).trans (by assumption)
    clear hc hzz
    have fzw30 : w3.frozen? ⟨w.heap.size + 1 + 1, 0, none⟩ = false := (hfmw3 _ _ (by first | assumption | (simp; done) | omega)).trans (by assumption)
    have fzw31 : w3.frozen? ⟨w.heap.size + 1 + 1, 1, none⟩ = false := (hfmw3 _ _ (by first | assumption | (simp; done) | omega)).trans (by assumption)
    clear fzw20 fzw21
    clear hfmw3
    clear cw2w0 cw2w1 cw2wp10 cw2wp11 cw2wp1p10 cw2wp1p11
    go_wp2_with fail
    have xcw3w0 := ext_cell_some cw3w0
    have xcw3w1 := ext_cell_some cw3w1
    have xcw3wp10 := ext_cell_some cw3wp10
    have xcw3wp11 := ext_cell_some cw3wp11
    have xcw3wp1p10 := ext_cell_some cw3wp1p10
    have xcw3wp1p11 := ext_cell_some cw3wp1p11
    refine wp_region_gr (by kernel_rfl) (by kernel_rfl) ?_
    repeat (go_big_quiet_step ((first | (go_at_call 95; exact calls_ext (P1.out _)) | (go_at_call 96; exact calls_ext (V1.out _)))))
    refine wpQuiet_nil ?_
    intro w4 hw'
    obtain ⟨y, hy⟩ := hw'
    have hgw4 : Gr w3 w4 := hy ▸ y.gr
    clear hy y xcw3w0 xcw3w1 xcw3wp10 xcw3wp11 xcw3wp1p10 xcw3wp1p11
    have hc := Gr.cells hgw4
    have hfmw4 := Gr.marks hgw4
    have hzz := Gr.size hgw4
    have zw4w : w.heap.size < w4.heap.size := by omega
    have zw4wp1 : w.heap.size + 1 < w4.heap.size := by omega
    have zw4wp1p1 : w.heap.size + 1 + 1 < w4.heap.size := by omega
    have cw4w0 : w4.cell? ⟨w.heap.size, 0, none⟩ = some (.int .i64 a) := (hc _ _ (by assumption)).trans (by assumption)
    have cw4w1 : w4.cell? ⟨w.heap.size, 1, none⟩ = some (.int .i64 b) := (hc _ _ (by assumption)).trans (by assumption)
    have cw4wp10 : w4.cell? ⟨w.heap.size + 1, 0, none⟩ = some (.int .i64 c) := (hc _ _ (by assumption)).trans (by assumption)
    have cw4wp11 : w4.cell? ⟨w.heap.size + 1, 1, none⟩ = some (.int .i64 d) := (hc _ _ (by assumption)).trans (by assumption)
    have cw4wp1p10 : w4.cell? ⟨w.heap.size + 1 + 1, 0, none⟩ = some (.int .i64 0) := (hc _ _ (by assumption)).trans (by assumption)
    have cw4wp1p11 : w4.cell? ⟨w.heap.size + 1 + 1, 1, none⟩ = some (.int .i64 0) := (hc _ _ (by assumption)).trans (by assumption)
    clear hc hzz
    have fzw40 : w4.frozen? ⟨w.heap.size + 1 + 1, 0, none⟩ = false := (hfmw4 _ _ (by first | assumption | (simp; done) | omega)).trans (by assumption)
    have fzw41 : w4.frozen? ⟨w.heap.size + 1 + 1, 1, none⟩ = false := (hfmw4 _ _ (by first | assumption | (simp; done) | omega)).trans (by assumption)
    clear fzw30 fzw31
    clear hfmw4
    clear cw3w0 cw3w1 cw3wp10 cw3wp11 cw3wp1p10 cw3wp1p11
    go_wp2_with fail
    have xcw4w0 := ext_cell_some cw4w0
    have xcw4w1 := ext_cell_some cw4w1
    have xcw4wp10 := ext_cell_some cw4wp10
    have xcw4wp11 := ext_cell_some cw4wp11
    have xcw4wp1p10 := ext_cell_some cw4wp1p10
    have xcw4wp1p11 := ext_cell_some cw4wp1p11
    refine wp_region_gr (by kernel_rfl) (by kernel_rfl) ?_
    repeat (go_big_quiet_step ((first | (go_at_call 95; exact calls_ext (P2.out _)) | (go_at_call 96; exact calls_ext (V2.out _)))))
    refine wpQuiet_nil ?_
    intro w5 hw'
    obtain ⟨y, hy⟩ := hw'
    have hgw5 : Gr w4 w5 := hy ▸ y.gr
    clear hy y xcw4w0 xcw4w1 xcw4wp10 xcw4wp11 xcw4wp1p10 xcw4wp1p11
    have hc := Gr.cells hgw5
    have hfmw5 := Gr.marks hgw5
    have hzz := Gr.size hgw5
    have zw5w : w.heap.size < w5.heap.size := by omega
    have zw5wp1 : w.heap.size + 1 < w5.heap.size := by omega
    have zw5wp1p1 : w.heap.size + 1 + 1 < w5.heap.size := by omega
    have cw5w0 : w5.cell? ⟨w.heap.size, 0, none⟩ = some (.int .i64 a) := (hc _ _ (by assumption)).trans (by assumption)
    have cw5w1 : w5.cell? ⟨w.heap.size, 1, none⟩ = some (.int .i64 b) := (hc _ _ (by assumption)).trans (by assumption)
    have cw5wp10 : w5.cell? ⟨w.heap.size + 1, 0, none⟩ = some (.int .i64 c) := (hc _ _ (by assumption)).trans (by assumption)
    have cw5wp11 : w5.cell? ⟨w.heap.size + 1, 1, none⟩ = some (.int .i64 d) := (hc _ _ (by assumption)).trans (by assumption)
    have cw5wp1p10 : w5.cell? ⟨w.heap.size + 1 + 1, 0, none⟩ = some (.int .i64 0) := (hc _ _ (by assumption)).trans (by assumption)
    have cw5wp1p11 : w5.cell? ⟨w.heap.size + 1 + 1, 1, none⟩ = some (.int .i64 0) := (hc _ _ (by assumption)).trans (by assumption)
    clear hc hzz
    have fzw50 : w5.frozen? ⟨w.heap.size + 1 + 1, 0, none⟩ = false := (hfmw5 _ _ (by first | assumption | (simp; done) | omega)).trans (by assumption)
    have fzw51 : w5.frozen? ⟨w.heap.size + 1 + 1, 1, none⟩ = false := (hfmw5 _ _ (by first | assumption | (simp; done) | omega)).trans (by assumption)
    clear fzw40 fzw41
    clear hfmw5
    clear cw4w0 cw4w1 cw4wp10 cw4wp11 cw4wp1p10 cw4wp1p11
    go_wp2_with fail
    refine (result_any _ _ _ _).mono ?_
    rintro e w6 ⟨rfl, hgw6⟩
    have hc := Gr.cells hgw6
    have hfmw6 := Gr.marks hgw6
    have hzz := Gr.size hgw6
    try simp at hzz
    have zw6w : w.heap.size < w6.heap.size := by omega
    have zw6wp1 : w.heap.size + 1 < w6.heap.size := by omega
    have zw6wp1p1 : w.heap.size + 1 + 1 < w6.heap.size := by omega
    have cw6w0 : w6.cell? ⟨w.heap.size, 0, none⟩ = some (.int .i64 a) := by rw [hc _ _ (by first | assumption | (simp; done) | (simp; omega))]; first | assumption | go_simp
    have cw6w1 : w6.cell? ⟨w.heap.size, 1, none⟩ = some (.int .i64 b) := by rw [hc _ _ (by first | assumption | (simp; done) | (simp; omega))]; first | assumption | go_simp
    have cw6wp10 : w6.cell? ⟨w.heap.size + 1, 0, none⟩ = some (.int .i64 c) := by rw [hc _ _ (by first | assumption | (simp; done) | (simp; omega))]; first | assumption | go_simp
    have cw6wp11 : w6.cell? ⟨w.heap.size + 1, 1, none⟩ = some (.int .i64 d) := by rw [hc _ _ (by first | assumption | (simp; done) | (simp; omega))]; first | assumption | go_simp
    have cw6wp1p10 : w6.cell? ⟨w.heap.size + 1 + 1, 0, none⟩ = some (.int .i64 0) := by rw [hc _ _ (by first | assumption | (simp; done) | (simp; omega))]; first | assumption | go_simp
    have cw6wp1p11 : w6.cell? ⟨w.heap.size + 1 + 1, 1, none⟩ = some (.int .i64 0) := by rw [hc _ _ (by first | assumption | (simp; done) | (simp; omega))]; first | assumption | go_simp
    clear hc hzz
    have fzw60 : w6.frozen? ⟨w.heap.size + 1 + 1, 0, none⟩ = false := by rw [hfmw6 _ _ (by first | assumption | (simp; done) | (simp; omega))]; first | assumption | (simp only [frozen?_alloc_cells]; exact fresh_frozen (by omega))
    have fzw61 : w6.frozen? ⟨w.heap.size + 1 + 1, 1, none⟩ = false := by rw [hfmw6 _ _ (by first | assumption | (simp; done) | (simp; omega))]; first | assumption | (simp only [frozen?_alloc_cells]; exact fresh_frozen (by omega))
    clear fzw50 fzw51
    clear hfmw6
    clear cw5w0 cw5w1 cw5wp10 cw5wp11 cw5wp1p10 cw5wp1p11
    go_wp2
    refine bodyPost_ret (v := .tuple #[.agg #[.int .i64 (selI (true && f2) N), .int .i64 (selI (true && f2) M)], .int .i64 (selE (true && f2))]) (by simp [results, Tryz.results48, go_sem, *]) rfl ⟨rfl, ?_⟩
    repeat (first | exact Gr.refl _ | apply Gr.alloc | apply Gr.drewN | apply Gr.drew | (refine Gr.setCell ?_ (by first | (simp; done) | (simp; omega)) _) | (refine Gr.trans ?_ (by assumption)))
end Go.Proofs.YtpngjeloiifgnaaGreat
