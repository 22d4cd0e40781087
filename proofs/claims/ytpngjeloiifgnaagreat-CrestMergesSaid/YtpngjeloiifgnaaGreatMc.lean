/-
  Those of an iterator's meetings that a closure keeps. Conditions: none.
-/
import Derived.Test.YtpngjeloiifgnaaGreatSxT
import Derived.Test.YtpngjeloiifgnaaGreatA
namespace Go.Proofs.YtpngjeloiifgnaaGreat
open Go.RowKit
structure Mt where
  n : Int
  d : Int
  i : Int
  j : Int
section
variable (y : Nat) (ga gk : FuncId) (ca ck : Array Value) (m : Mt)
end
end Go.Proofs.YtpngjeloiifgnaaGreat
