/-
  RatioNames returns true. Conditions: none.
-/
import Derived.Test.YtjhkeinelbeekaaCon
namespace Go.Proofs.Ytjhkeinelbeekaa
open Go.RowKit
set_option maxRecDepth 100000 in
theorem names_law : Pure Try.prog 3 #[] (.bool true) := pure_run (args := []) 1000 [] (And.intro rfl True.intro) (by kernel_rfl)
end Go.Proofs.Ytjhkeinelbeekaa
