/-
  All pairs of a field's points: what the iterator gives. Conditions: none.
-/
import Derived.Test.YtoheadpehomdjaaSxT
import Derived.Test.YtoheadpehomdjaaW25
namespace Go.Proofs.Ytoheadpehomdjaa
open Go.RowKit
/-- All pairs, in the text's order. -/
def pairsOf : List Pt → List (Pt × Pt)
  | [] => []
  | p :: r => r.map (fun q => (p, q)) ++ pairsOf r
section
end
end Go.Proofs.Ytoheadpehomdjaa
