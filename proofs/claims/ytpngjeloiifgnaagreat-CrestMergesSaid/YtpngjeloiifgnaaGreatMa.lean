/-
  All pairs of a field's points: what the iterator gives. Conditions: none.
-/
import Derived.Test.YtpngjeloiifgnaaGreatSxT
import Derived.Test.YtpngjeloiifgnaaGreatW31
namespace Go.Proofs.YtpngjeloiifgnaaGreat
open Go.RowKit
section
noncomputable abbrev pc (p : List Nat) : Code := codeOf Tryz.prog 186 p
noncomputable abbrev pi (p : List Nat) : Code := pc ([1, 0, 0, 1, 1, 0, 0, 1, 1, 0, 0] ++ p)
end
end Go.Proofs.YtpngjeloiifgnaaGreat
