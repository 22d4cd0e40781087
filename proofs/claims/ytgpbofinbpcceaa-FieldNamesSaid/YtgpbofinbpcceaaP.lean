/-
  Mul of package ratio: what it returns for all fractions, valid or not, in whatever world.
-/
import Derived.Test.YtgpbofinbpcceaaC
import Derived.Test.YtgpbofinbpcceaaD
import Derived.Test.YtgpbofinbpcceaaG
import Derived.Laws.BitsAllLaws
import Derived.Laws.MathBits
import Derived.Lib.BitFns
namespace Go.Proofs.Ytgpbofinbpcceaa
open Go.RowKit
theorem okBoth_zero {a b c d : Int} (h1 : okB a b = true) (h2 : okB c d = true) : bothE a b c d = 0 := by simp [bothE, h1, ckE, h2]
theorem wrap_i64_in {n : Int} (h0 : -9223372036854775808 ≤ n) (h1 : n ≤ 9223372036854775807) : IntKind.i64.wrap n = n := by
  rw [IntKind.wrap_i64]; omega
end Go.Proofs.Ytgpbofinbpcceaa
