/-
  The examples of chapter 2 hold.
-/
import Derived.Test.YtjhkeinelbeekaaQ
namespace Go.Proofs.Ytjhkeinelbeekaa
open Go.RowKit
set_option maxRecDepth 100000 in
theorem alive02 : Pure Try.prog 45 #[] (.bool true) := pure_run (args := []) 1000 [] (And.intro rfl True.intro) (by kernel_rfl)
end Go.Proofs.Ytjhkeinelbeekaa
