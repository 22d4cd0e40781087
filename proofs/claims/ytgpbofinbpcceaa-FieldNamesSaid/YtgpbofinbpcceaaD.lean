/-
  math/bits.Div64 and Rem64 return the quotient and the remainder, where the upper half is less than the divisor.
-/
import Derived.Test.YtgpbofinbpcceaaA
import Derived.Test.YtgpbofinbpcceaaShelf
namespace Go.Proofs.Ytgpbofinbpcceaa
open Go.RowKit
theorem wrap_in {n : Int} (h0 : 0 ≤ n) (h1 : n < 18446744073709551616) : IntKind.u64.wrap n = n := by rw [IntKind.wrap_u64]; omega
end Go.Proofs.Ytgpbofinbpcceaa
