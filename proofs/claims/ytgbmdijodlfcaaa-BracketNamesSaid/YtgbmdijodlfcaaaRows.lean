/-
  No cell of these rows narrows 'for every input' (looked for: loops, veiled, ifaces, maps, wideKeys, modest, calm, conditions, laid).
  DERIVED. THE GIVEN ROWS OF THIS SEAT. 6 by the template 'for every input the law returns true; each argument reads behind the call as it read before'; 0 by the template 'total and deterministic' (their statements: YtgbmdijodlfcaaaTotals.lean).
  GIVEN WITH THE SEED: the statements are not yours to turn. If you find one false, say at which input.
  Laid BY PROGRAM, IN A SANDBOX (cutbox-rows.mjs): the forced cells as the released guide's own fill.sh prints them over the translation 171a66c5c3514d43… (all of the seat's roots in one cut). By AI agents, Wed Nov 11 2026. No macro, syntax, notation, axiom, sorry.
-/
import Derived.Test.YtgbmdijodlfcaaaChecked
import GoSem.Claim
import GoSem.ClaimJoined
import GoSem.ClaimMapViews
import Derived.JoinedTies
import Derived.KernelRfl
namespace Go.Proofs.Ytgbmdijodlfcaaa
/- THE CELL 'sum', in the pinned program and in every row, IS THE sha256 OF THE DUMP (.gsa) THAT YtgbmdijodlfcaaaProg.lean LOADS. Nothing in Lean hashes anything: it is a label: what it is worth is what the hold of that sum in a sandbox is worth. -/
noncomputable def Try.pinned : Pinned := { name := "ytgbmdijodlfcaaa", sum := "171a66c5c3514d4357891d3a7e2fda42dbbfaa855c8a60b592cc679f27a34f15", checked := Try.checked }
namespace Rows
def none {H : Type} : Left H := { results := [], args := [] }

/-- 'pelotonlaw10.BracketNames': WHATEVER THE INPUT: true; the input reads as it did. -/
def bracketNamesSpec : ChangeSpec := { name := "bracketNames", fn := fun _ => fun
  | [] => { results := [.lit (.bool true)], args := [] }
  | _ => none }
def bracketNamesRow : OpenClaim := { program := "ytgbmdijodlfcaaa", sum := "171a66c5c3514d4357891d3a7e2fda42dbbfaa855c8a60b592cc679f27a34f15", func := "peloton/pelotonlaw10.BracketNames", spec := "bracketNames", inPlace := ["math/bits.Sub64", "math/bits.Add64"], unfollowed := true, recurses := true, apart := false }
def BracketNamesSaid : Prop := bracketNamesRow.holds Try.pinned (OpenSpec.ofChange bracketNamesSpec)

/-- ITS FALSE NEIGHBOUR: 'it returns false'. Refute it at one input. -/
def bracketNamesWrong : ChangeSpec := { name := "bracketNames", fn := fun _ => fun
  | [] => { results := [.lit (.bool false)], args := [] }
  | _ => none }
def BracketNamesWrongFalsely : Prop := bracketNamesRow.holds Try.pinned (OpenSpec.ofChange bracketNamesWrong)

/-- 'pelotonlaw10.BracketBuilds': WHATEVER THE INPUT: true; the input reads as it did. -/
def bracketBuildsSpec : ChangeSpec := { name := "bracketBuilds", fn := fun _ => fun
  | [d1, d2, d3, d4, d5] => { results := [.lit (.bool true)], args := [d1, d2, d3, d4, d5] }
  | _ => none }
def bracketBuildsRow : OpenClaim := { program := "ytgbmdijodlfcaaa", sum := "171a66c5c3514d4357891d3a7e2fda42dbbfaa855c8a60b592cc679f27a34f15", func := "peloton/pelotonlaw10.BracketBuilds", spec := "bracketBuilds", inPlace := ["math/bits.Sub64", "math/bits.Add64"], unfollowed := true, recurses := true, apart := false }
def BracketBuildsSaid : Prop := bracketBuildsRow.holds Try.pinned (OpenSpec.ofChange bracketBuildsSpec)

/-- ITS FALSE NEIGHBOUR: 'it returns false'. Refute it at one input. -/
def bracketBuildsWrong : ChangeSpec := { name := "bracketBuilds", fn := fun _ => fun
  | [d1, d2, d3, d4, d5] => { results := [.lit (.bool false)], args := [d1, d2, d3, d4, d5] }
  | _ => none }
def BracketBuildsWrongFalsely : Prop := bracketBuildsRow.holds Try.pinned (OpenSpec.ofChange bracketBuildsWrong)

/-- 'pelotonlaw10.BracketSets': WHATEVER THE INPUT: true; the input reads as it did. -/
def bracketSetsSpec : ChangeSpec := { name := "bracketSets", fn := fun _ => fun
  | [d1, d2, d3, d4, d5] => { results := [.lit (.bool true)], args := [d1, d2, d3, d4, d5] }
  | _ => none }
def bracketSetsRow : OpenClaim := { program := "ytgbmdijodlfcaaa", sum := "171a66c5c3514d4357891d3a7e2fda42dbbfaa855c8a60b592cc679f27a34f15", func := "peloton/pelotonlaw10.BracketSets", spec := "bracketSets", inPlace := ["math/bits.Sub64", "math/bits.Add64"], unfollowed := true, recurses := true, apart := false }
def BracketSetsSaid : Prop := bracketSetsRow.holds Try.pinned (OpenSpec.ofChange bracketSetsSpec)

/-- ITS FALSE NEIGHBOUR: 'it returns false'. Refute it at one input. -/
def bracketSetsWrong : ChangeSpec := { name := "bracketSets", fn := fun _ => fun
  | [d1, d2, d3, d4, d5] => { results := [.lit (.bool false)], args := [d1, d2, d3, d4, d5] }
  | _ => none }
def BracketSetsWrongFalsely : Prop := bracketSetsRow.holds Try.pinned (OpenSpec.ofChange bracketSetsWrong)

/-- 'pelotonlaw10.BracketWins': WHATEVER THE INPUT: true; the input reads as it did. -/
def bracketWinsSpec : ChangeSpec := { name := "bracketWins", fn := fun _ => fun
  | [d1, d2, d3] => { results := [.lit (.bool true)], args := [d1, d2, d3] }
  | _ => none }
def bracketWinsRow : OpenClaim := { program := "ytgbmdijodlfcaaa", sum := "171a66c5c3514d4357891d3a7e2fda42dbbfaa855c8a60b592cc679f27a34f15", func := "peloton/pelotonlaw10.BracketWins", spec := "bracketWins", inPlace := ["math/bits.Sub64", "math/bits.Add64"], unfollowed := true, recurses := true, apart := false }
def BracketWinsSaid : Prop := bracketWinsRow.holds Try.pinned (OpenSpec.ofChange bracketWinsSpec)

/-- ITS FALSE NEIGHBOUR: 'it returns false'. Refute it at one input. -/
def bracketWinsWrong : ChangeSpec := { name := "bracketWins", fn := fun _ => fun
  | [d1, d2, d3] => { results := [.lit (.bool false)], args := [d1, d2, d3] }
  | _ => none }
def BracketWinsWrongFalsely : Prop := bracketWinsRow.holds Try.pinned (OpenSpec.ofChange bracketWinsWrong)

/-- 'pelotonlaw10.BracketMends': WHATEVER THE INPUT: true; the input reads as it did. -/
def bracketMendsSpec : ChangeSpec := { name := "bracketMends", fn := fun _ => fun
  | [d1, d2, d3, d4, d5] => { results := [.lit (.bool true)], args := [d1, d2, d3, d4, d5] }
  | _ => none }
def bracketMendsRow : OpenClaim := { program := "ytgbmdijodlfcaaa", sum := "171a66c5c3514d4357891d3a7e2fda42dbbfaa855c8a60b592cc679f27a34f15", func := "peloton/pelotonlaw10.BracketMends", spec := "bracketMends", inPlace := ["math/bits.Sub64", "math/bits.Add64"], unfollowed := true, recurses := true, apart := false }
def BracketMendsSaid : Prop := bracketMendsRow.holds Try.pinned (OpenSpec.ofChange bracketMendsSpec)

/-- ITS FALSE NEIGHBOUR: 'it returns false'. Refute it at one input. -/
def bracketMendsWrong : ChangeSpec := { name := "bracketMends", fn := fun _ => fun
  | [d1, d2, d3, d4, d5] => { results := [.lit (.bool false)], args := [d1, d2, d3, d4, d5] }
  | _ => none }
def BracketMendsWrongFalsely : Prop := bracketMendsRow.holds Try.pinned (OpenSpec.ofChange bracketMendsWrong)

/-- 'pelotonlaw10.BracketSteps': WHATEVER THE INPUT: true; the input reads as it did. -/
def bracketStepsSpec : ChangeSpec := { name := "bracketSteps", fn := fun _ => fun
  | [d1, d2, d3, d4] => { results := [.lit (.bool true)], args := [d1, d2, d3, d4] }
  | _ => none }
def bracketStepsRow : OpenClaim := { program := "ytgbmdijodlfcaaa", sum := "171a66c5c3514d4357891d3a7e2fda42dbbfaa855c8a60b592cc679f27a34f15", func := "peloton/pelotonlaw10.BracketSteps", spec := "bracketSteps", inPlace := ["math/bits.Sub64", "math/bits.Add64"], unfollowed := true, recurses := true, apart := false }
def BracketStepsSaid : Prop := bracketStepsRow.holds Try.pinned (OpenSpec.ofChange bracketStepsSpec)

/-- ITS FALSE NEIGHBOUR: 'it returns false'. Refute it at one input. -/
def bracketStepsWrong : ChangeSpec := { name := "bracketSteps", fn := fun _ => fun
  | [d1, d2, d3, d4] => { results := [.lit (.bool false)], args := [d1, d2, d3, d4] }
  | _ => none }
def BracketStepsWrongFalsely : Prop := bracketStepsRow.holds Try.pinned (OpenSpec.ofChange bracketStepsWrong)

/- THE SECOND FORM. 'bulk': how many values and letters a reading holds, each counted each time it is reached (what is shared counts as often as it is met; a slice's spare places count too). A statement '..UptoSaid' is the law's where the arguments, and the package variables that the reading takes, are together of bulk at most 1048576: NARROWER than '..Said'. Prove '..Said' where nothing that the law and all that it calls make is longer than what came in: it says more and counts as full. Else prove '..UptoSaid'. A law counts once. -/
mutual
def uptoBulk {H : Type} : DataW H → Nat
  | .lit (.string bytes) => bytes.length + 1
  | .lit _ => 1
  | .nil => 1
  | .ptr d => uptoBulk d + 1
  | .slice elems spare => uptoBulkAll elems + uptoBulkAll spare + 1
  | .agg parts => uptoBulkAll parts + 1
  | .iface _ d => uptoBulk d + 1
  | .map entries => uptoBulkEntries entries + 1
  | .held _ => 1
def uptoBulkAll {H : Type} : List (DataW H) → Nat
  | [] => 0
  | d :: r => uptoBulk d + uptoBulkAll r
def uptoBulkEntries {H : Type} : List (Lit × DataW H) → Nat
  | [] => 0
  | x :: r => uptoBulkEntry x + uptoBulkEntries r
def uptoBulkEntry {H : Type} : Lit × DataW H → Nat
  | (.string bytes, d) => bytes.length + uptoBulk d + 1
  | (_, d) => uptoBulk d + 1
 end
def uptoSmall : (H : Type) → List (DataW H) → Bool := fun _ ds => decide (uptoBulkAll ds ≤ 1048576)
def OpenSpec.upto (s : _root_.Go.ChangeSpec) : _root_.Go.OpenSpec := { _root_.Go.OpenSpec.ofChange s with cond := some uptoSmall }

/-- 'pelotonlaw10.BracketNames', WHERE WHAT IT READS IS OF BULK AT MOST 1048576: true; the input reads as it did. -/
def bracketNamesUptoRow : OpenClaim := { program := "ytgbmdijodlfcaaa", sum := "171a66c5c3514d4357891d3a7e2fda42dbbfaa855c8a60b592cc679f27a34f15", func := "peloton/pelotonlaw10.BracketNames", spec := "bracketNames", inPlace := ["math/bits.Sub64", "math/bits.Add64"], unfollowed := true, recurses := true, apart := false, narrowed := true }
def BracketNamesUptoSaid : Prop := bracketNamesUptoRow.holds Try.pinned (OpenSpec.upto bracketNamesSpec)

/-- 'pelotonlaw10.BracketBuilds', WHERE WHAT IT READS IS OF BULK AT MOST 1048576: true; the input reads as it did. -/
def bracketBuildsUptoRow : OpenClaim := { program := "ytgbmdijodlfcaaa", sum := "171a66c5c3514d4357891d3a7e2fda42dbbfaa855c8a60b592cc679f27a34f15", func := "peloton/pelotonlaw10.BracketBuilds", spec := "bracketBuilds", inPlace := ["math/bits.Sub64", "math/bits.Add64"], unfollowed := true, recurses := true, apart := false, narrowed := true }
def BracketBuildsUptoSaid : Prop := bracketBuildsUptoRow.holds Try.pinned (OpenSpec.upto bracketBuildsSpec)

/-- 'pelotonlaw10.BracketSets', WHERE WHAT IT READS IS OF BULK AT MOST 1048576: true; the input reads as it did. -/
def bracketSetsUptoRow : OpenClaim := { program := "ytgbmdijodlfcaaa", sum := "171a66c5c3514d4357891d3a7e2fda42dbbfaa855c8a60b592cc679f27a34f15", func := "peloton/pelotonlaw10.BracketSets", spec := "bracketSets", inPlace := ["math/bits.Sub64", "math/bits.Add64"], unfollowed := true, recurses := true, apart := false, narrowed := true }
def BracketSetsUptoSaid : Prop := bracketSetsUptoRow.holds Try.pinned (OpenSpec.upto bracketSetsSpec)

/-- 'pelotonlaw10.BracketWins', WHERE WHAT IT READS IS OF BULK AT MOST 1048576: true; the input reads as it did. -/
def bracketWinsUptoRow : OpenClaim := { program := "ytgbmdijodlfcaaa", sum := "171a66c5c3514d4357891d3a7e2fda42dbbfaa855c8a60b592cc679f27a34f15", func := "peloton/pelotonlaw10.BracketWins", spec := "bracketWins", inPlace := ["math/bits.Sub64", "math/bits.Add64"], unfollowed := true, recurses := true, apart := false, narrowed := true }
def BracketWinsUptoSaid : Prop := bracketWinsUptoRow.holds Try.pinned (OpenSpec.upto bracketWinsSpec)

/-- 'pelotonlaw10.BracketMends', WHERE WHAT IT READS IS OF BULK AT MOST 1048576: true; the input reads as it did. -/
def bracketMendsUptoRow : OpenClaim := { program := "ytgbmdijodlfcaaa", sum := "171a66c5c3514d4357891d3a7e2fda42dbbfaa855c8a60b592cc679f27a34f15", func := "peloton/pelotonlaw10.BracketMends", spec := "bracketMends", inPlace := ["math/bits.Sub64", "math/bits.Add64"], unfollowed := true, recurses := true, apart := false, narrowed := true }
def BracketMendsUptoSaid : Prop := bracketMendsUptoRow.holds Try.pinned (OpenSpec.upto bracketMendsSpec)

/-- 'pelotonlaw10.BracketSteps', WHERE WHAT IT READS IS OF BULK AT MOST 1048576: true; the input reads as it did. -/
def bracketStepsUptoRow : OpenClaim := { program := "ytgbmdijodlfcaaa", sum := "171a66c5c3514d4357891d3a7e2fda42dbbfaa855c8a60b592cc679f27a34f15", func := "peloton/pelotonlaw10.BracketSteps", spec := "bracketSteps", inPlace := ["math/bits.Sub64", "math/bits.Add64"], unfollowed := true, recurses := true, apart := false, narrowed := true }
def BracketStepsUptoSaid : Prop := bracketStepsUptoRow.holds Try.pinned (OpenSpec.upto bracketStepsSpec)

end Rows
end Go.Proofs.Ytgbmdijodlfcaaa
