/-
  Add, Sub and Cmp of package ratio: what they return for valid fractions. Conditions: both fractions are valid.
-/
import Derived.Test.YtjhkeinelbeekaaQ
namespace Go.Proofs.Ytjhkeinelbeekaa
open Go.RowKit

theorem okB_neg {c d : Int} (hc : c ≤ 9223372036854775807) (h : okB c d = true) : okB (-c) d = true := by
  unfold okB at *
  simp only [decide_eq_true_eq] at *
  exact ⟨h.1, by omega, by rw [Int.natAbs_neg]; exact h.2.2⟩

theorem Both_ok {a b c d : Int} (ha : I64 a) (hb : I64 b) (hc : I64 c) (hd : I64 d) (h1 : okB a b = true) (h2 : okB c d = true) : Pure Try.prog 54 #[ratioV a b, ratioV c d] (.int .i64 0) :=
  fun w => okBoth_zero h1 h2 ▸ checkBoth_any a b c d w ha hb hc hd
theorem Both_bad {a b c d : Int} (ha : I64 a) (hb : I64 b) (hc : I64 c) (hd : I64 d) (h : ¬ (okB a b = true ∧ okB c d = true)) : Pure Try.prog 54 #[ratioV a b, ratioV c d] (.int .i64 8) :=
  fun w => okBoth_bad h ▸ checkBoth_any a b c d w ha hb hc hd
set_option maxRecDepth 100000
theorem add_any {a b c d : Int} (ha : I64 a) (hb : I64 b) (hc : I64 c) (hd : I64 d) (h1 : okB a b = true) (h2 : okB c d = true) :
    Pure Try.prog 17 #[ratioV a b, ratioV c d] (.tuple #[ratioV (smN a b c d) (smD a b c d), .int .i64 (selE (smF a b c d))]) :=
  pure_run (args := [ratioV a b, ratioV c d]) 100 [.r (.int .i64 0), .k, .r (.tuple #[ratioV (smN a b c d) (smD a b c d), .int .i64 (selE (smF a b c d))])]
    (And.intro rfl (And.intro (Both_ok ha hb hc hd h1 h2) (And.intro (sum_any a b c d ha hb hc hd h1 h2) True.intro))) (by kernel_rfl)
theorem add_bad {a b c d : Int} (ha : I64 a) (hb : I64 b) (hc : I64 c) (hd : I64 d) (h : ¬ (okB a b = true ∧ okB c d = true)) :
    Pure Try.prog 17 #[ratioV a b, ratioV c d] (.tuple #[ratioV 0 0, .int .i64 8]) :=
  pure_run (args := [ratioV a b, ratioV c d]) 100 [.r (.int .i64 8), .k] (And.intro rfl (And.intro (Both_bad ha hb hc hd h) True.intro)) (by kernel_rfl)
theorem sub_any {a b c d : Int} (ha : I64 a) (hb : I64 b) (hc : I64 c) (hd : I64 d) (h1 : okB a b = true) (h2 : okB c d = true) :
    Pure Try.prog 18 #[ratioV a b, ratioV c d] (.tuple #[ratioV (smN a b (-c) d) (smD a b (-c) d), .int .i64 (selE (smF a b (-c) d))]) := by
  have c1 := okB_num h2
  have c2 := hc
  unfold I64 at c2
  exact pure_run (args := [ratioV a b, ratioV c d]) 100 [.r (.int .i64 0), .k, .r (.int .i64 (-c)), .r (.tuple #[ratioV (smN a b (-c) d) (smD a b (-c) d), .int .i64 (selE (smF a b (-c) d))])]
    (And.intro rfl (And.intro (Both_ok ha hb hc hd h1 h2) (And.intro ((by rw [wrap_i64_in (by omega) (by omega), Int.zero_sub] : Value.int .i64 (IntKind.i64.wrap (0 - c)) = .int .i64 (-c))) (And.intro (sum_any a b (-c) d ha hb (by unfold I64; omega) hd h1 (okB_neg c2.2 h2)) True.intro)))) (by kernel_rfl)
theorem sub_bad {a b c d : Int} (ha : I64 a) (hb : I64 b) (hc : I64 c) (hd : I64 d) (h : ¬ (okB a b = true ∧ okB c d = true)) :
    Pure Try.prog 18 #[ratioV a b, ratioV c d] (.tuple #[ratioV 0 0, .int .i64 8]) :=
  pure_run (args := [ratioV a b, ratioV c d]) 100 [.r (.int .i64 8), .k] (And.intro rfl (And.intro (Both_bad ha hb hc hd h) True.intro)) (by kernel_rfl)
theorem cmp_any {a b c d : Int} (ha : I64 a) (hb : I64 b) (hc : I64 c) (hd : I64 d) (h1 : okB a b = true) (h2 : okB c d = true) :
    Pure Try.prog 16 #[ratioV a b, ratioV c d] (.tuple #[.int .i64 (a * d - c * b).sign, .int .i64 0]) := by
  have b1 := okB_den h1
  have d1 := okB_den h2
  have a1 := okB_num h1
  have c1 := okB_num h2
  have hB := Both_ok ha hb hc hd h1 h2
  unfold I64 at ha hb hc hd
  have e : a * d + -(c * b) = a * d - c * b := rfl
  have f : fits128 (a * d - c * b) := by
    have := plus_fits (a := a) (b := d) (c := -c) (d := b) (by omega) (by omega) (by omega) (by omega) (by omega) (by omega) (by omega) (by omega)
    rw [Int.neg_mul] at this
    exact this
  exact pure_run (args := [ratioV a b, ratioV c d]) 100 [.r (.int .i64 0), .k, .r (wideV (a * d)), .r (wideV (c * b)), .r (wideV (-(c * b))), .r (wideV (a * d - c * b)), .r (.int .i64 (a * d - c * b).sign)]
    (And.intro rfl (And.intro hB (And.intro ((fun w => product_any a d w (by omega) (by omega) (by omega) (by omega) : Pure _ _ _ _)) (And.intro ((fun w => product_any c b w (by omega) (by omega) (by omega) (by omega) : Pure _ _ _ _)) (And.intro ((fun w => negated_any (c * b) w : Pure _ _ _ _)) (And.intro ((fun w => e ▸ plus_any (a * d) (-(c * b)) w : Pure _ _ _ _)) (And.intro ((fun w => sign_any _ w f : Pure _ _ _ _)) True.intro))))))) (by kernel_rfl)
theorem cmp_bad {a b c d : Int} (ha : I64 a) (hb : I64 b) (hc : I64 c) (hd : I64 d) (h : ¬ (okB a b = true ∧ okB c d = true)) :
    Pure Try.prog 16 #[ratioV a b, ratioV c d] (.tuple #[.int .i64 0, .int .i64 8]) :=
  pure_run (args := [ratioV a b, ratioV c d]) 100 [.r (.int .i64 8), .k] (And.intro rfl (And.intro (Both_bad ha hb hc hd h) True.intro)) (by kernel_rfl)
end Go.Proofs.Ytjhkeinelbeekaa
