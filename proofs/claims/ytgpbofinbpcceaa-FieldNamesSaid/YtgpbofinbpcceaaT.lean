/-
  Add, Sub and Cmp of package ratio: what they return for valid fractions. Conditions: both fractions are valid.
-/
import Derived.Test.YtgpbofinbpcceaaQ
namespace Go.Proofs.Ytgpbofinbpcceaa
open Go.RowKit
theorem Both_ok {a b c d : Int} (ha : I64 a) (hb : I64 b) (hc : I64 c) (hd : I64 d) (h1 : okB a b = true) (h2 : okB c d = true) : Pure Try.prog 129 #[ratioV a b, ratioV c d] (.int .i64 0) :=
  fun w => okBoth_zero h1 h2 ▸ checkBoth_any a b c d w ha hb hc hd
set_option maxRecDepth 100000
theorem cmp_any {a b c d : Int} (ha : I64 a) (hb : I64 b) (hc : I64 c) (hd : I64 d) (h1 : okB a b = true) (h2 : okB c d = true) :
    Pure Try.prog 110 #[ratioV a b, ratioV c d] (.tuple #[.int .i64 (a * d - c * b).sign, .int .i64 0]) := by
  have b1 := okB_den h1
  have d1 := okB_den h2
  have a1 := okB_num h1
  have c1 := okB_num h2
  have hB := Both_ok ha hb hc hd h1 h2
  unfold I64 at ha hb hc hd
  have e : a * d + -(c * b) = a * d - c * b := rfl
  have f : fits128 (a * d - c * b) := by
    have := plus_fits (a := a) (b := d) (c := -c) (d := b) (by omega) (by omega) (by omega) (by omega) (by omega) (by omega) (by omega) (by omega)
    rw [Int.neg_mul] at this
    exact this
  exact pure_run (args := [ratioV a b, ratioV c d]) 100 [.r (.int .i64 0), .k, .r (wideV (a * d)), .r (wideV (c * b)), .r (wideV (-(c * b))), .r (wideV (a * d - c * b)), .r (.int .i64 (a * d - c * b).sign)]
    (And.intro rfl (And.intro hB (And.intro ((fun w => product_any a d w (by omega) (by omega) (by omega) (by omega) : Pure _ _ _ _)) (And.intro ((fun w => product_any c b w (by omega) (by omega) (by omega) (by omega) : Pure _ _ _ _)) (And.intro ((fun w => negated_any (c * b) w : Pure _ _ _ _)) (And.intro ((fun w => e ▸ plus_any (a * d) (-(c * b)) w : Pure _ _ _ _)) (And.intro ((fun w => sign_any _ w f : Pure _ _ _ _)) True.intro))))))) (by kernel_rfl)
end Go.Proofs.Ytgpbofinbpcceaa
