/-
  No cell of these rows narrows 'for every input' (looked for: loops, veiled, ifaces, maps, wideKeys, modest, calm, conditions, laid).
  DERIVED. THE GIVEN ROWS OF THIS SEAT. 7 by the template 'for every input the law returns true; each argument reads behind the call as it read before'; 0 by the template 'total and deterministic' (their statements: YtleaeldgaflmkaaGreatTotals.lean).
  GIVEN WITH THE SEED: the statements are not yours to turn. If you find one false, say at which input.
  Laid BY PROGRAM, IN A SANDBOX (cutbox-rows.mjs): the forced cells as the released guide's own fill.sh prints them over the translation 3fb955250b83bbb8… (all of the seat's roots in one cut). By AI agents, Wed Nov 11 2026. No macro, syntax, notation, axiom, sorry.
-/
import Derived.Test.YtleaeldgaflmkaaGreatChecked
import GoSem.Claim
import GoSem.ClaimJoined
import GoSem.ClaimMapViews
import Derived.JoinedTies
import Derived.KernelRfl
namespace Go.Proofs.YtleaeldgaflmkaaGreat
/- THE CELL 'sum', in the pinned program and in every row, IS THE sha256 OF THE DUMP (.gsa) THAT YtleaeldgaflmkaaGreatProg.lean LOADS. Nothing in Lean hashes anything: it is a label: what it is worth is what the hold of that sum in a sandbox is worth. -/
noncomputable def Tryz.pinned : Pinned := { name := "ytleaeldgaflmkaagreat", sum := "3fb955250b83bbb82f8b2a935bda8eb84605d4cb7850d7e8ad231b059c571de0", checked := Tryz.checked }
namespace Rows
def none {H : Type} : Left H := { results := [], args := [] }

/-- 'pelotonlaw12.OracleNames': WHATEVER THE INPUT: true; the input reads as it did. -/
def oracleNamesSpec : ChangeSpec := { name := "oracleNames", fn := fun _ => fun
  | [] => { results := [.lit (.bool true)], args := [] }
  | _ => none }
def oracleNamesRow : OpenClaim := { program := "ytleaeldgaflmkaagreat", sum := "3fb955250b83bbb82f8b2a935bda8eb84605d4cb7850d7e8ad231b059c571de0", func := "peloton/pelotonlaw12.OracleNames", spec := "oracleNames", inPlace := ["math/bits.Sub64", "math/bits.Add64"], unfollowed := true, recurses := true, named := ["math/bits.divideError", "math/bits.overflowError"], apart := false }
def OracleNamesSaid : Prop := oracleNamesRow.holds Tryz.pinned (OpenSpec.ofChange oracleNamesSpec)

/-- ITS FALSE NEIGHBOUR: 'it returns false'. Refute it at one input. -/
def oracleNamesWrong : ChangeSpec := { name := "oracleNames", fn := fun _ => fun
  | [] => { results := [.lit (.bool false)], args := [] }
  | _ => none }
def OracleNamesWrongFalsely : Prop := oracleNamesRow.holds Tryz.pinned (OpenSpec.ofChange oracleNamesWrong)

/-- 'pelotonlaw12.OracleDoes': WHATEVER THE INPUT: true; the input reads as it did. -/
def oracleDoesSpec : ChangeSpec := { name := "oracleDoes", fn := fun _ => fun
  | [d1, d2, d3] => { results := [.lit (.bool true)], args := [d1, d2, d3] }
  | _ => none }
def oracleDoesRow : OpenClaim := { program := "ytleaeldgaflmkaagreat", sum := "3fb955250b83bbb82f8b2a935bda8eb84605d4cb7850d7e8ad231b059c571de0", func := "peloton/pelotonlaw12.OracleDoes", spec := "oracleDoes", inPlace := ["math/bits.Sub64", "math/bits.Add64"], unfollowed := true, recurses := true, named := ["math/bits.divideError", "math/bits.overflowError"], apart := false }
def OracleDoesSaid : Prop := oracleDoesRow.holds Tryz.pinned (OpenSpec.ofChange oracleDoesSpec)

/-- ITS FALSE NEIGHBOUR: 'it returns false'. Refute it at one input. -/
def oracleDoesWrong : ChangeSpec := { name := "oracleDoes", fn := fun _ => fun
  | [d1, d2, d3] => { results := [.lit (.bool false)], args := [d1, d2, d3] }
  | _ => none }
def OracleDoesWrongFalsely : Prop := oracleDoesRow.holds Tryz.pinned (OpenSpec.ofChange oracleDoesWrong)

/-- 'pelotonlaw12.OracleRuns': WHATEVER THE INPUT: true; the input reads as it did. -/
def oracleRunsSpec : ChangeSpec := { name := "oracleRuns", fn := fun _ => fun
  | [d1, d2, d3, d4] => { results := [.lit (.bool true)], args := [d1, d2, d3, d4] }
  | _ => none }
def oracleRunsRow : OpenClaim := { program := "ytleaeldgaflmkaagreat", sum := "3fb955250b83bbb82f8b2a935bda8eb84605d4cb7850d7e8ad231b059c571de0", func := "peloton/pelotonlaw12.OracleRuns", spec := "oracleRuns", inPlace := ["math/bits.Sub64", "math/bits.Add64"], unfollowed := true, recurses := true, named := ["math/bits.divideError", "math/bits.overflowError"], apart := false }
def OracleRunsSaid : Prop := oracleRunsRow.holds Tryz.pinned (OpenSpec.ofChange oracleRunsSpec)

/-- ITS FALSE NEIGHBOUR: 'it returns false'. Refute it at one input. -/
def oracleRunsWrong : ChangeSpec := { name := "oracleRuns", fn := fun _ => fun
  | [d1, d2, d3, d4] => { results := [.lit (.bool false)], args := [d1, d2, d3, d4] }
  | _ => none }
def OracleRunsWrongFalsely : Prop := oracleRunsRow.holds Tryz.pinned (OpenSpec.ofChange oracleRunsWrong)

/-- 'pelotonlaw12.OracleAlike': WHATEVER THE INPUT: true; the input reads as it did. -/
def oracleAlikeSpec : ChangeSpec := { name := "oracleAlike", fn := fun _ => fun
  | [d1, d2, d3, d4] => { results := [.lit (.bool true)], args := [d1, d2, d3, d4] }
  | _ => none }
def oracleAlikeRow : OpenClaim := { program := "ytleaeldgaflmkaagreat", sum := "3fb955250b83bbb82f8b2a935bda8eb84605d4cb7850d7e8ad231b059c571de0", func := "peloton/pelotonlaw12.OracleAlike", spec := "oracleAlike", inPlace := ["math/bits.Sub64", "math/bits.Add64"], unfollowed := true, recurses := true, named := ["math/bits.divideError", "math/bits.overflowError"], apart := false }
def OracleAlikeSaid : Prop := oracleAlikeRow.holds Tryz.pinned (OpenSpec.ofChange oracleAlikeSpec)

/-- ITS FALSE NEIGHBOUR: 'it returns false'. Refute it at one input. -/
def oracleAlikeWrong : ChangeSpec := { name := "oracleAlike", fn := fun _ => fun
  | [d1, d2, d3, d4] => { results := [.lit (.bool false)], args := [d1, d2, d3, d4] }
  | _ => none }
def OracleAlikeWrongFalsely : Prop := oracleAlikeRow.holds Tryz.pinned (OpenSpec.ofChange oracleAlikeWrong)

/-- 'pelotonlaw12.OracleMoves': WHATEVER THE INPUT: true; the input reads as it did. -/
def oracleMovesSpec : ChangeSpec := { name := "oracleMoves", fn := fun _ => fun
  | [d1, d2, d3] => { results := [.lit (.bool true)], args := [d1, d2, d3] }
  | _ => none }
def oracleMovesRow : OpenClaim := { program := "ytleaeldgaflmkaagreat", sum := "3fb955250b83bbb82f8b2a935bda8eb84605d4cb7850d7e8ad231b059c571de0", func := "peloton/pelotonlaw12.OracleMoves", spec := "oracleMoves", inPlace := ["math/bits.Sub64", "math/bits.Add64"], unfollowed := true, recurses := true, named := ["math/bits.divideError", "math/bits.overflowError"], apart := false }
def OracleMovesSaid : Prop := oracleMovesRow.holds Tryz.pinned (OpenSpec.ofChange oracleMovesSpec)

/-- ITS FALSE NEIGHBOUR: 'it returns false'. Refute it at one input. -/
def oracleMovesWrong : ChangeSpec := { name := "oracleMoves", fn := fun _ => fun
  | [d1, d2, d3] => { results := [.lit (.bool false)], args := [d1, d2, d3] }
  | _ => none }
def OracleMovesWrongFalsely : Prop := oracleMovesRow.holds Tryz.pinned (OpenSpec.ofChange oracleMovesWrong)

/-- 'pelotonlaw12.OracleParts': WHATEVER THE INPUT: true; the input reads as it did. -/
def oraclePartsSpec : ChangeSpec := { name := "oracleParts", fn := fun _ => fun
  | [d1, d2, d3] => { results := [.lit (.bool true)], args := [d1, d2, d3] }
  | _ => none }
def oraclePartsRow : OpenClaim := { program := "ytleaeldgaflmkaagreat", sum := "3fb955250b83bbb82f8b2a935bda8eb84605d4cb7850d7e8ad231b059c571de0", func := "peloton/pelotonlaw12.OracleParts", spec := "oracleParts", inPlace := ["math/bits.Sub64", "math/bits.Add64"], unfollowed := true, recurses := true, named := ["math/bits.divideError", "math/bits.overflowError"], apart := false }
def OraclePartsSaid : Prop := oraclePartsRow.holds Tryz.pinned (OpenSpec.ofChange oraclePartsSpec)

/-- ITS FALSE NEIGHBOUR: 'it returns false'. Refute it at one input. -/
def oraclePartsWrong : ChangeSpec := { name := "oracleParts", fn := fun _ => fun
  | [d1, d2, d3] => { results := [.lit (.bool false)], args := [d1, d2, d3] }
  | _ => none }
def OraclePartsWrongFalsely : Prop := oraclePartsRow.holds Tryz.pinned (OpenSpec.ofChange oraclePartsWrong)

/-- 'pelotonlaw12.OracleLeads': WHATEVER THE INPUT: true; the input reads as it did. -/
def oracleLeadsSpec : ChangeSpec := { name := "oracleLeads", fn := fun _ => fun
  | [d] => { results := [.lit (.bool true)], args := [d] }
  | _ => none }
def oracleLeadsRow : OpenClaim := { program := "ytleaeldgaflmkaagreat", sum := "3fb955250b83bbb82f8b2a935bda8eb84605d4cb7850d7e8ad231b059c571de0", func := "peloton/pelotonlaw12.OracleLeads", spec := "oracleLeads", inPlace := ["math/bits.Sub64", "math/bits.Add64"], unfollowed := true, recurses := true, named := ["math/bits.divideError", "math/bits.overflowError"], apart := false }
def OracleLeadsSaid : Prop := oracleLeadsRow.holds Tryz.pinned (OpenSpec.ofChange oracleLeadsSpec)

/-- ITS FALSE NEIGHBOUR: 'it returns false'. Refute it at one input. -/
def oracleLeadsWrong : ChangeSpec := { name := "oracleLeads", fn := fun _ => fun
  | [d] => { results := [.lit (.bool false)], args := [d] }
  | _ => none }
def OracleLeadsWrongFalsely : Prop := oracleLeadsRow.holds Tryz.pinned (OpenSpec.ofChange oracleLeadsWrong)

/- THE SECOND FORM. 'bulk': how many values and letters a reading holds, each counted each time it is reached (what is shared counts as often as it is met; a slice's spare places count too). A statement '..UptoSaid' is the law's where the arguments, and the package variables that the reading takes, are together of bulk at most 1048576: NARROWER than '..Said'. Prove '..Said' where nothing that the law and all that it calls make is longer than what came in: it says more and counts as full. Else prove '..UptoSaid'. A law counts once. -/
mutual
def uptoBulk {H : Type} : DataW H → Nat
  | .lit (.string bytes) => bytes.length + 1
  | .lit _ => 1
  | .nil => 1
  | .ptr d => uptoBulk d + 1
  | .slice elems spare => uptoBulkAll elems + uptoBulkAll spare + 1
  | .agg parts => uptoBulkAll parts + 1
  | .iface _ d => uptoBulk d + 1
  | .map entries => uptoBulkEntries entries + 1
  | .held _ => 1
def uptoBulkAll {H : Type} : List (DataW H) → Nat
  | [] => 0
  | d :: r => uptoBulk d + uptoBulkAll r
def uptoBulkEntries {H : Type} : List (Lit × DataW H) → Nat
  | [] => 0
  | x :: r => uptoBulkEntry x + uptoBulkEntries r
def uptoBulkEntry {H : Type} : Lit × DataW H → Nat
  | (.string bytes, d) => bytes.length + uptoBulk d + 1
  | (_, d) => uptoBulk d + 1
 end
def uptoSmall : (H : Type) → List (DataW H) → Bool := fun _ ds => decide (uptoBulkAll ds ≤ 1048576)
def OpenSpec.upto (s : _root_.Go.ChangeSpec) : _root_.Go.OpenSpec := { _root_.Go.OpenSpec.ofChange s with cond := some uptoSmall }

/-- 'pelotonlaw12.OracleNames', WHERE WHAT IT READS IS OF BULK AT MOST 1048576: true; the input reads as it did. -/
def oracleNamesUptoRow : OpenClaim := { program := "ytleaeldgaflmkaagreat", sum := "3fb955250b83bbb82f8b2a935bda8eb84605d4cb7850d7e8ad231b059c571de0", func := "peloton/pelotonlaw12.OracleNames", spec := "oracleNames", inPlace := ["math/bits.Sub64", "math/bits.Add64"], unfollowed := true, recurses := true, named := ["math/bits.divideError", "math/bits.overflowError"], apart := false, narrowed := true }
def OracleNamesUptoSaid : Prop := oracleNamesUptoRow.holds Tryz.pinned (OpenSpec.upto oracleNamesSpec)

/-- 'pelotonlaw12.OracleDoes', WHERE WHAT IT READS IS OF BULK AT MOST 1048576: true; the input reads as it did. -/
def oracleDoesUptoRow : OpenClaim := { program := "ytleaeldgaflmkaagreat", sum := "3fb955250b83bbb82f8b2a935bda8eb84605d4cb7850d7e8ad231b059c571de0", func := "peloton/pelotonlaw12.OracleDoes", spec := "oracleDoes", inPlace := ["math/bits.Sub64", "math/bits.Add64"], unfollowed := true, recurses := true, named := ["math/bits.divideError", "math/bits.overflowError"], apart := false, narrowed := true }
def OracleDoesUptoSaid : Prop := oracleDoesUptoRow.holds Tryz.pinned (OpenSpec.upto oracleDoesSpec)

/-- 'pelotonlaw12.OracleRuns', WHERE WHAT IT READS IS OF BULK AT MOST 1048576: true; the input reads as it did. -/
def oracleRunsUptoRow : OpenClaim := { program := "ytleaeldgaflmkaagreat", sum := "3fb955250b83bbb82f8b2a935bda8eb84605d4cb7850d7e8ad231b059c571de0", func := "peloton/pelotonlaw12.OracleRuns", spec := "oracleRuns", inPlace := ["math/bits.Sub64", "math/bits.Add64"], unfollowed := true, recurses := true, named := ["math/bits.divideError", "math/bits.overflowError"], apart := false, narrowed := true }
def OracleRunsUptoSaid : Prop := oracleRunsUptoRow.holds Tryz.pinned (OpenSpec.upto oracleRunsSpec)

/-- 'pelotonlaw12.OracleAlike', WHERE WHAT IT READS IS OF BULK AT MOST 1048576: true; the input reads as it did. -/
def oracleAlikeUptoRow : OpenClaim := { program := "ytleaeldgaflmkaagreat", sum := "3fb955250b83bbb82f8b2a935bda8eb84605d4cb7850d7e8ad231b059c571de0", func := "peloton/pelotonlaw12.OracleAlike", spec := "oracleAlike", inPlace := ["math/bits.Sub64", "math/bits.Add64"], unfollowed := true, recurses := true, named := ["math/bits.divideError", "math/bits.overflowError"], apart := false, narrowed := true }
def OracleAlikeUptoSaid : Prop := oracleAlikeUptoRow.holds Tryz.pinned (OpenSpec.upto oracleAlikeSpec)

/-- 'pelotonlaw12.OracleMoves', WHERE WHAT IT READS IS OF BULK AT MOST 1048576: true; the input reads as it did. -/
def oracleMovesUptoRow : OpenClaim := { program := "ytleaeldgaflmkaagreat", sum := "3fb955250b83bbb82f8b2a935bda8eb84605d4cb7850d7e8ad231b059c571de0", func := "peloton/pelotonlaw12.OracleMoves", spec := "oracleMoves", inPlace := ["math/bits.Sub64", "math/bits.Add64"], unfollowed := true, recurses := true, named := ["math/bits.divideError", "math/bits.overflowError"], apart := false, narrowed := true }
def OracleMovesUptoSaid : Prop := oracleMovesUptoRow.holds Tryz.pinned (OpenSpec.upto oracleMovesSpec)

/-- 'pelotonlaw12.OracleParts', WHERE WHAT IT READS IS OF BULK AT MOST 1048576: true; the input reads as it did. -/
def oraclePartsUptoRow : OpenClaim := { program := "ytleaeldgaflmkaagreat", sum := "3fb955250b83bbb82f8b2a935bda8eb84605d4cb7850d7e8ad231b059c571de0", func := "peloton/pelotonlaw12.OracleParts", spec := "oracleParts", inPlace := ["math/bits.Sub64", "math/bits.Add64"], unfollowed := true, recurses := true, named := ["math/bits.divideError", "math/bits.overflowError"], apart := false, narrowed := true }
def OraclePartsUptoSaid : Prop := oraclePartsUptoRow.holds Tryz.pinned (OpenSpec.upto oraclePartsSpec)

/-- 'pelotonlaw12.OracleLeads', WHERE WHAT IT READS IS OF BULK AT MOST 1048576: true; the input reads as it did. -/
def oracleLeadsUptoRow : OpenClaim := { program := "ytleaeldgaflmkaagreat", sum := "3fb955250b83bbb82f8b2a935bda8eb84605d4cb7850d7e8ad231b059c571de0", func := "peloton/pelotonlaw12.OracleLeads", spec := "oracleLeads", inPlace := ["math/bits.Sub64", "math/bits.Add64"], unfollowed := true, recurses := true, named := ["math/bits.divideError", "math/bits.overflowError"], apart := false, narrowed := true }
def OracleLeadsUptoSaid : Prop := oracleLeadsUptoRow.holds Tryz.pinned (OpenSpec.upto oracleLeadsSpec)

end Rows
end Go.Proofs.YtleaeldgaflmkaaGreat
