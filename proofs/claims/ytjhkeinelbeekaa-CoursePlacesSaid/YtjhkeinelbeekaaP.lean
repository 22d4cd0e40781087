/-
  Mul of package ratio: what it returns for all fractions, valid or not, in whatever world.
-/
import Derived.Test.YtjhkeinelbeekaaK
import Derived.Test.YtjhkeinelbeekaaL
namespace Go.Proofs.Ytjhkeinelbeekaa
open Go.RowKit


theorem okBoth_zero {a b c d : Int} (h1 : okB a b = true) (h2 : okB c d = true) : bothE a b c d = 0 := by simp [bothE, h1, ckE, h2]
theorem okBoth_bad {a b c d : Int} (h : ¬ (okB a b = true ∧ okB c d = true)) : bothE a b c d = 8 := by
  unfold bothE
  by_cases h1 : okB a b = true
  · rw [if_pos h1]; exact ckE_bad (fun h2 => h ⟨h1, h2⟩)
  · rw [if_neg h1]
/-- What Mul makes of its numbers: each numerator without what it shares with the other denominator. -/
def muA (a d : Int) : Int := a.tdiv (Nat.gcd a.natAbs d.natAbs : Nat)
def muB (a d : Int) : Int := d.tdiv (Nat.gcd a.natAbs d.natAbs : Nat)
def muT (a b c d : Int) : Int := muA a d * muA c b
def muU (a b c d : Int) : Int := muB c b * muB a d
def muF (a b c d : Int) : Bool := fitB (muT a b c d).natAbs && fitB (muU a b c d).natAbs
def muN (a b c d : Int) : Int := selI (muF a b c d) (sgV (muT a b c d).natAbs (decide (muT a b c d < 0)))
def muD (a b c d : Int) : Int := selI (muF a b c d) (sgV (muU a b c d).natAbs (decide (muU a b c d < 0)))

set_option maxHeartbeats 800000 in
theorem mul_bad (a b c d : Int) (w : World) (CB : Hid (∀ w, Calls Try.prog 54 #[.agg #[.int .i64 a, .int .i64 b], .agg #[.int .i64 c, .int .i64 d]] w fun e w' => e = .returned (.int .i64 8) ∧ Gr w w')) :
    Calls Try.prog 19 #[.agg #[.int .i64 a, .int .i64 b], .agg #[.int .i64 c, .int .i64 d]] w fun e w' => e = .returned (.tuple #[.agg #[.int .i64 0, .int .i64 0], .int .i64 8]) ∧ Gr w w' := by
  have n01 : w.heap.size < w.heap.size + 1 + 1 := by omega
  have n02 : w.heap.size < w.heap.size + 1 + 1 + 1 := by omega
  have n12 : w.heap.size + 1 < w.heap.size + 1 + 1 + 1 := by omega
  go_enter Try.func19, Try.ntmps19
  go_wp2_with fail
  refine (CB.out _).mono ?_
  rintro e w1 ⟨rfl, hgw1⟩
  have hc := Gr.cells hgw1
  have hfmw1 := Gr.marks hgw1
  have hzz := Gr.size hgw1
  try simp at hzz
  have zw1w : w.heap.size < w1.heap.size := by omega
  have zw1wp1 : w.heap.size + 1 < w1.heap.size := by omega
  have zw1wp1p1 : w.heap.size + 1 + 1 < w1.heap.size := by omega
  have cw1w0 : w1.cell? ⟨w.heap.size, 0, none⟩ = some (.int .i64 a) := by rw [hc _ _ (by first | assumption | (simp; done) | (simp; omega))]; first | assumption | go_simp
  have cw1w1 : w1.cell? ⟨w.heap.size, 1, none⟩ = some (.int .i64 b) := by rw [hc _ _ (by first | assumption | (simp; done) | (simp; omega))]; first | assumption | go_simp
  have cw1wp10 : w1.cell? ⟨w.heap.size + 1, 0, none⟩ = some (.int .i64 c) := by rw [hc _ _ (by first | assumption | (simp; done) | (simp; omega))]; first | assumption | go_simp
  have cw1wp11 : w1.cell? ⟨w.heap.size + 1, 1, none⟩ = some (.int .i64 d) := by rw [hc _ _ (by first | assumption | (simp; done) | (simp; omega))]; first | assumption | go_simp
  have cw1wp1p10 : w1.cell? ⟨w.heap.size + 1 + 1, 0, none⟩ = some (.int .i64 0) := by rw [hc _ _ (by first | assumption | (simp; done) | (simp; omega))]; first | assumption | go_simp
  have cw1wp1p11 : w1.cell? ⟨w.heap.size + 1 + 1, 1, none⟩ = some (.int .i64 0) := by rw [hc _ _ (by first | assumption | (simp; done) | (simp; omega))]; first | assumption | go_simp
  clear hc hzz
  have fzw10 : w1.frozen? ⟨w.heap.size + 1 + 1, 0, none⟩ = false := by rw [hfmw1]; first | assumption | (simp only [frozen?_alloc_cells]; exact fresh_frozen (by omega))
  have fzw11 : w1.frozen? ⟨w.heap.size + 1 + 1, 1, none⟩ = false := by rw [hfmw1]; first | assumption | (simp only [frozen?_alloc_cells]; exact fresh_frozen (by omega))
  clear hfmw1
  go_wp2
  refine bodyPost_ret (v := .tuple #[.agg #[.int .i64 0, .int .i64 0], .int .i64 8]) (by simp [results, Try.results19, go_sem, *]) rfl ⟨rfl, ?_⟩
  repeat (first | exact Gr.refl _ | apply Gr.alloc | apply Gr.drewN | apply Gr.drew | (refine Gr.setCell ?_ (by first | (simp; done) | (simp; omega)) _) | (refine Gr.trans ?_ (by assumption)))

theorem tdiv_bd {a : Int} {g : Nat} (_ : 0 < g) (h0 : -9223372036854775807 ≤ a) (h1 : a ≤ 9223372036854775807) : -9223372036854775807 ≤ a.tdiv g ∧ a.tdiv g ≤ 9223372036854775807 := by
  have h : (a.tdiv (g : Int)).natAbs = a.natAbs / g := by rw [Int.natAbs_tdiv]; rfl
  have e : a.natAbs / g ≤ a.natAbs := Nat.div_le_self _ _
  rw [← h] at e
  generalize a.tdiv (g : Int) = q at *
  omega
theorem wrap_i64_in {n : Int} (h0 : -9223372036854775808 ≤ n) (h1 : n ≤ 9223372036854775807) : IntKind.i64.wrap n = n := by
  rw [IntKind.wrap_i64]; omega
theorem prod_fits {a b : Int} (h0 : -9223372036854775807 ≤ a) (h1 : a ≤ 9223372036854775807) (h2 : -9223372036854775807 ≤ b) (h3 : b ≤ 9223372036854775807) : fits128 (a * b) := by
  have h : (a * b).natAbs ≤ 9223372036854775807 * 9223372036854775807 := by rw [Int.natAbs_mul]; exact Nat.mul_le_mul (by omega) (by omega)
  unfold fits128
  generalize a * b = p at *
  omega

theorem mul_any (a b c d : Int) (w : World) (ha : I64 a) (hb : I64 b) (hc : I64 c) (hd : I64 d) :
    Calls Try.prog 19 #[.agg #[.int .i64 a, .int .i64 b], .agg #[.int .i64 c, .int .i64 d]] w fun e w' =>
      e = .returned (if okB a b = true ∧ okB c d = true then .tuple #[.agg #[.int .i64 (muN a b c d), .int .i64 (muD a b c d)], .int .i64 (selE (muF a b c d))] else .tuple #[.agg #[.int .i64 0, .int .i64 0], .int .i64 8]) ∧ Gr w w' := by
  by_cases hk : okB a b = true ∧ okB c d = true
  · rw [if_pos hk]
    obtain ⟨k1, k2⟩ := hk
    have b1 := okB_den k1
    have d1 := okB_den k2
    have a1 := okB_num k1
    have c1 := okB_num k2
    unfold I64 at ha hb hc hd
    obtain ⟨g, hg⟩ : ∃ g : Nat, g = Nat.gcd a.natAbs d.natAbs := ⟨_, rfl⟩
    obtain ⟨h, hh⟩ : ∃ h : Nat, h = Nat.gcd c.natAbs b.natAbs := ⟨_, rfl⟩
    have g0 : 0 < g := hg ▸ Nat.gcd_pos_of_pos_right _ (by omega)
    have h0 : 0 < h := hh ▸ Nat.gcd_pos_of_pos_right _ (by omega)
    have gl : g ≤ d.natAbs := hg ▸ Nat.gcd_le_right _ (by omega)
    have hl : h ≤ b.natAbs := hh ▸ Nat.gcd_le_right _ (by omega)
    have eA : a.tdiv (g : Int) = muA a d := by rw [hg]; rfl
    have eD : d.tdiv (g : Int) = muB a d := by rw [hg]; rfl
    have eC : c.tdiv (h : Int) = muA c b := by rw [hh]; rfl
    have eB : b.tdiv (h : Int) = muB c b := by rw [hh]; rfl
    have tA := tdiv_bd (a := a) g0 (by omega) (by omega)
    have tD := tdiv_bd (a := d) g0 (by omega) (by omega)
    have tC := tdiv_bd (a := c) h0 (by omega) (by omega)
    have tB := tdiv_bd (a := b) h0 (by omega) (by omega)
    rw [eA] at tA
    rw [eD] at tD
    rw [eC] at tC
    rw [eB] at tB
    have f1 := prod_fits tA.1 tA.2 tC.1 tC.2
    have f2 := prod_fits tB.1 tB.2 tD.1 tD.2
    have one : ((1 : Nat) : Int) = 1 := rfl
    have v1 := fun w => divided_any (muA a d * muA c b) 1 w f1 (by omega) (by omega)
    have v2 := fun w => divided_any (muB c b * muB a d) 1 w f2 (by omega) (by omega)
    simp only [Nat.div_one] at v1 v2
    exact mul_core a b c d g h (muA a d) (muB c b) (muA c b) (muB a d) a.natAbs d.natAbs c.natAbs b.natAbs _ _ _ _ _ _ _ _ w
      (Lib.hid fun w => okBoth_zero k1 k2 ▸ checkBoth_any a b c d w ha hb hc hd)
      (Lib.hid fun w => size_any a w (by omega) (by omega)) (Lib.hid fun w => size_any d w (by omega) (by omega)) (Lib.hid fun w => size_any c w (by omega) (by omega)) (Lib.hid fun w => size_any b w (by omega) (by omega))
      (Lib.hid fun w => divisor_z _ _ _ _ _ w rfl rfl (by rw [hg]) (by omega) (by omega)) (Lib.hid fun w => divisor_z _ _ _ _ _ w rfl rfl (by rw [hh]) (by omega) (by omega))
      (Lib.hid fun w => product_any _ _ w (by omega) (by omega) (by omega) (by omega)) (Lib.hid fun w => product_any _ _ w (by omega) (by omega) (by omega) (by omega))
      (Lib.hid v1) (Lib.hid v2)
      (wrap_i64_in (by omega) (by omega)) (wrap_i64_in (by omega) (by omega)) (by simp; omega) (by omega) (by simp; omega) (by omega)
      eA (wrap_i64_in (by omega) (by omega)) eC (wrap_i64_in (by omega) (by omega)) eB (wrap_i64_in (by omega) (by omega)) eD (wrap_i64_in (by omega) (by omega))
  · rw [if_neg hk]
    exact mul_bad a b c d w (Lib.hid fun w => okBoth_bad hk ▸ checkBoth_any a b c d w ha hb hc hd)
end Go.Proofs.Ytjhkeinelbeekaa
