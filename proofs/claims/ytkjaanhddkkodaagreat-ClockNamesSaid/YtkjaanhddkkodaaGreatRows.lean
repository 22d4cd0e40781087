/-
  No cell of these rows narrows 'for every input' (looked for: loops, veiled, ifaces, maps, wideKeys, modest, calm, conditions, laid).
  DERIVED. THE GIVEN ROWS OF THIS SEAT. 7 by the template 'for every input the law returns true; each argument reads behind the call as it read before'; 0 by the template 'total and deterministic' (their statements: YtkjaanhddkkodaaGreatTotals.lean).
  GIVEN WITH THE SEED: the statements are not yours to turn. If you find one false, say at which input.
  Laid BY PROGRAM, IN A SANDBOX (cutbox-rows.mjs): the forced cells as the released guide's own fill.sh prints them over the translation 0b584a554752451b… (all of the seat's roots in one cut). By AI agents, Wed Nov 11 2026. No macro, syntax, notation, axiom, sorry.
-/
import Derived.Test.YtkjaanhddkkodaaGreatChecked
import GoSem.Claim
import GoSem.ClaimJoined
import GoSem.ClaimMapViews
import Derived.JoinedTies
import Derived.KernelRfl
namespace Go.Proofs.YtkjaanhddkkodaaGreat
/- THE CELL 'sum', in the pinned program and in every row, IS THE sha256 OF THE DUMP (.gsa) THAT YtkjaanhddkkodaaGreatProg.lean LOADS. Nothing in Lean hashes anything: it is a label: what it is worth is what the hold of that sum in a sandbox is worth. -/
noncomputable def Tryz.pinned : Pinned := { name := "ytkjaanhddkkodaagreat", sum := "0b584a554752451b7be78e003738acda0288233fc01c43eb277b4bfa07c24c74", checked := Tryz.checked }
namespace Rows
def none {H : Type} : Left H := { results := [], args := [] }

/-- 'pelotonlaw09.ClockNames': WHATEVER THE INPUT: true; the input reads as it did. -/
def clockNamesSpec : ChangeSpec := { name := "clockNames", fn := fun _ => fun
  | [] => { results := [.lit (.bool true)], args := [] }
  | _ => none }
def clockNamesRow : OpenClaim := { program := "ytkjaanhddkkodaagreat", sum := "0b584a554752451b7be78e003738acda0288233fc01c43eb277b4bfa07c24c74", func := "peloton/pelotonlaw09.ClockNames", spec := "clockNames", inPlace := ["math/bits.Sub64", "math/bits.Add64"], unfollowed := true, recurses := true, plainKeys := false, apart := false }
def ClockNamesSaid : Prop := clockNamesRow.holds Tryz.pinned (OpenSpec.ofChange clockNamesSpec)

/-- ITS FALSE NEIGHBOUR: 'it returns false'. Refute it at one input. -/
def clockNamesWrong : ChangeSpec := { name := "clockNames", fn := fun _ => fun
  | [] => { results := [.lit (.bool false)], args := [] }
  | _ => none }
def ClockNamesWrongFalsely : Prop := clockNamesRow.holds Tryz.pinned (OpenSpec.ofChange clockNamesWrong)

/-- 'pelotonlaw09.ClockKeeps': WHATEVER THE INPUT: true; the input reads as it did. -/
def clockKeepsSpec : ChangeSpec := { name := "clockKeeps", fn := fun _ => fun
  | [d1, d2, d3, d4, d5] => { results := [.lit (.bool true)], args := [d1, d2, d3, d4, d5] }
  | _ => none }
def clockKeepsRow : OpenClaim := { program := "ytkjaanhddkkodaagreat", sum := "0b584a554752451b7be78e003738acda0288233fc01c43eb277b4bfa07c24c74", func := "peloton/pelotonlaw09.ClockKeeps", spec := "clockKeeps", inPlace := ["math/bits.Sub64", "math/bits.Add64"], unfollowed := true, recurses := true, plainKeys := false, apart := false }
def ClockKeepsSaid : Prop := clockKeepsRow.holds Tryz.pinned (OpenSpec.ofChange clockKeepsSpec)

/-- ITS FALSE NEIGHBOUR: 'it returns false'. Refute it at one input. -/
def clockKeepsWrong : ChangeSpec := { name := "clockKeeps", fn := fun _ => fun
  | [d1, d2, d3, d4, d5] => { results := [.lit (.bool false)], args := [d1, d2, d3, d4, d5] }
  | _ => none }
def ClockKeepsWrongFalsely : Prop := clockKeepsRow.holds Tryz.pinned (OpenSpec.ofChange clockKeepsWrong)

/-- 'pelotonlaw09.ClockGoes': WHATEVER THE INPUT: true; the input reads as it did. -/
def clockGoesSpec : ChangeSpec := { name := "clockGoes", fn := fun _ => fun
  | [d1, d2, d3] => { results := [.lit (.bool true)], args := [d1, d2, d3] }
  | _ => none }
def clockGoesRow : OpenClaim := { program := "ytkjaanhddkkodaagreat", sum := "0b584a554752451b7be78e003738acda0288233fc01c43eb277b4bfa07c24c74", func := "peloton/pelotonlaw09.ClockGoes", spec := "clockGoes", inPlace := ["math/bits.Sub64", "math/bits.Add64"], unfollowed := true, recurses := true, plainKeys := false, apart := false }
def ClockGoesSaid : Prop := clockGoesRow.holds Tryz.pinned (OpenSpec.ofChange clockGoesSpec)

/-- ITS FALSE NEIGHBOUR: 'it returns false'. Refute it at one input. -/
def clockGoesWrong : ChangeSpec := { name := "clockGoes", fn := fun _ => fun
  | [d1, d2, d3] => { results := [.lit (.bool false)], args := [d1, d2, d3] }
  | _ => none }
def ClockGoesWrongFalsely : Prop := clockGoesRow.holds Tryz.pinned (OpenSpec.ofChange clockGoesWrong)

/-- 'pelotonlaw09.ClockDue': WHATEVER THE INPUT: true; the input reads as it did. -/
def clockDueSpec : ChangeSpec := { name := "clockDue", fn := fun _ => fun
  | [d1, d2] => { results := [.lit (.bool true)], args := [d1, d2] }
  | _ => none }
def clockDueRow : OpenClaim := { program := "ytkjaanhddkkodaagreat", sum := "0b584a554752451b7be78e003738acda0288233fc01c43eb277b4bfa07c24c74", func := "peloton/pelotonlaw09.ClockDue", spec := "clockDue", inPlace := ["math/bits.Sub64", "math/bits.Add64"], unfollowed := true, recurses := true, plainKeys := false, apart := false }
def ClockDueSaid : Prop := clockDueRow.holds Tryz.pinned (OpenSpec.ofChange clockDueSpec)

/-- ITS FALSE NEIGHBOUR: 'it returns false'. Refute it at one input. -/
def clockDueWrong : ChangeSpec := { name := "clockDue", fn := fun _ => fun
  | [d1, d2] => { results := [.lit (.bool false)], args := [d1, d2] }
  | _ => none }
def ClockDueWrongFalsely : Prop := clockDueRow.holds Tryz.pinned (OpenSpec.ofChange clockDueWrong)

/-- 'pelotonlaw09.ClockHolds': WHATEVER THE INPUT: true; the input reads as it did. -/
def clockHoldsSpec : ChangeSpec := { name := "clockHolds", fn := fun _ => fun
  | [d1, d2] => { results := [.lit (.bool true)], args := [d1, d2] }
  | _ => none }
def clockHoldsRow : OpenClaim := { program := "ytkjaanhddkkodaagreat", sum := "0b584a554752451b7be78e003738acda0288233fc01c43eb277b4bfa07c24c74", func := "peloton/pelotonlaw09.ClockHolds", spec := "clockHolds", inPlace := ["math/bits.Sub64", "math/bits.Add64"], unfollowed := true, recurses := true, plainKeys := false, apart := false }
def ClockHoldsSaid : Prop := clockHoldsRow.holds Tryz.pinned (OpenSpec.ofChange clockHoldsSpec)

/-- ITS FALSE NEIGHBOUR: 'it returns false'. Refute it at one input. -/
def clockHoldsWrong : ChangeSpec := { name := "clockHolds", fn := fun _ => fun
  | [d1, d2] => { results := [.lit (.bool false)], args := [d1, d2] }
  | _ => none }
def ClockHoldsWrongFalsely : Prop := clockHoldsRow.holds Tryz.pinned (OpenSpec.ofChange clockHoldsWrong)

/-- 'pelotonlaw09.ClockEnds': WHATEVER THE INPUT: true; the input reads as it did. -/
def clockEndsSpec : ChangeSpec := { name := "clockEnds", fn := fun _ => fun
  | [d1, d2] => { results := [.lit (.bool true)], args := [d1, d2] }
  | _ => none }
def clockEndsRow : OpenClaim := { program := "ytkjaanhddkkodaagreat", sum := "0b584a554752451b7be78e003738acda0288233fc01c43eb277b4bfa07c24c74", func := "peloton/pelotonlaw09.ClockEnds", spec := "clockEnds", inPlace := ["math/bits.Sub64", "math/bits.Add64"], unfollowed := true, recurses := true, plainKeys := false, apart := false }
def ClockEndsSaid : Prop := clockEndsRow.holds Tryz.pinned (OpenSpec.ofChange clockEndsSpec)

/-- ITS FALSE NEIGHBOUR: 'it returns false'. Refute it at one input. -/
def clockEndsWrong : ChangeSpec := { name := "clockEnds", fn := fun _ => fun
  | [d1, d2] => { results := [.lit (.bool false)], args := [d1, d2] }
  | _ => none }
def ClockEndsWrongFalsely : Prop := clockEndsRow.holds Tryz.pinned (OpenSpec.ofChange clockEndsWrong)

/-- 'pelotonlaw09.ClockAlters': WHATEVER THE INPUT: true; the input reads as it did. -/
def clockAltersSpec : ChangeSpec := { name := "clockAlters", fn := fun _ => fun
  | [d1, d2, d3] => { results := [.lit (.bool true)], args := [d1, d2, d3] }
  | _ => none }
def clockAltersRow : OpenClaim := { program := "ytkjaanhddkkodaagreat", sum := "0b584a554752451b7be78e003738acda0288233fc01c43eb277b4bfa07c24c74", func := "peloton/pelotonlaw09.ClockAlters", spec := "clockAlters", inPlace := ["math/bits.Sub64", "math/bits.Add64"], unfollowed := true, recurses := true, plainKeys := false, apart := false }
def ClockAltersSaid : Prop := clockAltersRow.holds Tryz.pinned (OpenSpec.ofChange clockAltersSpec)

/-- ITS FALSE NEIGHBOUR: 'it returns false'. Refute it at one input. -/
def clockAltersWrong : ChangeSpec := { name := "clockAlters", fn := fun _ => fun
  | [d1, d2, d3] => { results := [.lit (.bool false)], args := [d1, d2, d3] }
  | _ => none }
def ClockAltersWrongFalsely : Prop := clockAltersRow.holds Tryz.pinned (OpenSpec.ofChange clockAltersWrong)

/- THE SECOND FORM. 'bulk': how many values and letters a reading holds, each counted each time it is reached (what is shared counts as often as it is met; a slice's spare places count too). A statement '..UptoSaid' is the law's where the arguments, and the package variables that the reading takes, are together of bulk at most 1048576: NARROWER than '..Said'. Prove '..Said' where nothing that the law and all that it calls make is longer than what came in: it says more and counts as full. Else prove '..UptoSaid'. A law counts once. -/
mutual
def uptoBulk {H : Type} : DataW H → Nat
  | .lit (.string bytes) => bytes.length + 1
  | .lit _ => 1
  | .nil => 1
  | .ptr d => uptoBulk d + 1
  | .slice elems spare => uptoBulkAll elems + uptoBulkAll spare + 1
  | .agg parts => uptoBulkAll parts + 1
  | .iface _ d => uptoBulk d + 1
  | .map entries => uptoBulkEntries entries + 1
  | .held _ => 1
def uptoBulkAll {H : Type} : List (DataW H) → Nat
  | [] => 0
  | d :: r => uptoBulk d + uptoBulkAll r
def uptoBulkEntries {H : Type} : List (Lit × DataW H) → Nat
  | [] => 0
  | x :: r => uptoBulkEntry x + uptoBulkEntries r
def uptoBulkEntry {H : Type} : Lit × DataW H → Nat
  | (.string bytes, d) => bytes.length + uptoBulk d + 1
  | (_, d) => uptoBulk d + 1
 end
def uptoSmall : (H : Type) → List (DataW H) → Bool := fun _ ds => decide (uptoBulkAll ds ≤ 1048576)
def OpenSpec.upto (s : _root_.Go.ChangeSpec) : _root_.Go.OpenSpec := { _root_.Go.OpenSpec.ofChange s with cond := some uptoSmall }

/-- 'pelotonlaw09.ClockNames', WHERE WHAT IT READS IS OF BULK AT MOST 1048576: true; the input reads as it did. -/
def clockNamesUptoRow : OpenClaim := { program := "ytkjaanhddkkodaagreat", sum := "0b584a554752451b7be78e003738acda0288233fc01c43eb277b4bfa07c24c74", func := "peloton/pelotonlaw09.ClockNames", spec := "clockNames", inPlace := ["math/bits.Sub64", "math/bits.Add64"], unfollowed := true, recurses := true, plainKeys := false, apart := false, narrowed := true }
def ClockNamesUptoSaid : Prop := clockNamesUptoRow.holds Tryz.pinned (OpenSpec.upto clockNamesSpec)

/-- 'pelotonlaw09.ClockKeeps', WHERE WHAT IT READS IS OF BULK AT MOST 1048576: true; the input reads as it did. -/
def clockKeepsUptoRow : OpenClaim := { program := "ytkjaanhddkkodaagreat", sum := "0b584a554752451b7be78e003738acda0288233fc01c43eb277b4bfa07c24c74", func := "peloton/pelotonlaw09.ClockKeeps", spec := "clockKeeps", inPlace := ["math/bits.Sub64", "math/bits.Add64"], unfollowed := true, recurses := true, plainKeys := false, apart := false, narrowed := true }
def ClockKeepsUptoSaid : Prop := clockKeepsUptoRow.holds Tryz.pinned (OpenSpec.upto clockKeepsSpec)

/-- 'pelotonlaw09.ClockGoes', WHERE WHAT IT READS IS OF BULK AT MOST 1048576: true; the input reads as it did. -/
def clockGoesUptoRow : OpenClaim := { program := "ytkjaanhddkkodaagreat", sum := "0b584a554752451b7be78e003738acda0288233fc01c43eb277b4bfa07c24c74", func := "peloton/pelotonlaw09.ClockGoes", spec := "clockGoes", inPlace := ["math/bits.Sub64", "math/bits.Add64"], unfollowed := true, recurses := true, plainKeys := false, apart := false, narrowed := true }
def ClockGoesUptoSaid : Prop := clockGoesUptoRow.holds Tryz.pinned (OpenSpec.upto clockGoesSpec)

/-- 'pelotonlaw09.ClockDue', WHERE WHAT IT READS IS OF BULK AT MOST 1048576: true; the input reads as it did. -/
def clockDueUptoRow : OpenClaim := { program := "ytkjaanhddkkodaagreat", sum := "0b584a554752451b7be78e003738acda0288233fc01c43eb277b4bfa07c24c74", func := "peloton/pelotonlaw09.ClockDue", spec := "clockDue", inPlace := ["math/bits.Sub64", "math/bits.Add64"], unfollowed := true, recurses := true, plainKeys := false, apart := false, narrowed := true }
def ClockDueUptoSaid : Prop := clockDueUptoRow.holds Tryz.pinned (OpenSpec.upto clockDueSpec)

/-- 'pelotonlaw09.ClockHolds', WHERE WHAT IT READS IS OF BULK AT MOST 1048576: true; the input reads as it did. -/
def clockHoldsUptoRow : OpenClaim := { program := "ytkjaanhddkkodaagreat", sum := "0b584a554752451b7be78e003738acda0288233fc01c43eb277b4bfa07c24c74", func := "peloton/pelotonlaw09.ClockHolds", spec := "clockHolds", inPlace := ["math/bits.Sub64", "math/bits.Add64"], unfollowed := true, recurses := true, plainKeys := false, apart := false, narrowed := true }
def ClockHoldsUptoSaid : Prop := clockHoldsUptoRow.holds Tryz.pinned (OpenSpec.upto clockHoldsSpec)

/-- 'pelotonlaw09.ClockEnds', WHERE WHAT IT READS IS OF BULK AT MOST 1048576: true; the input reads as it did. -/
def clockEndsUptoRow : OpenClaim := { program := "ytkjaanhddkkodaagreat", sum := "0b584a554752451b7be78e003738acda0288233fc01c43eb277b4bfa07c24c74", func := "peloton/pelotonlaw09.ClockEnds", spec := "clockEnds", inPlace := ["math/bits.Sub64", "math/bits.Add64"], unfollowed := true, recurses := true, plainKeys := false, apart := false, narrowed := true }
def ClockEndsUptoSaid : Prop := clockEndsUptoRow.holds Tryz.pinned (OpenSpec.upto clockEndsSpec)

/-- 'pelotonlaw09.ClockAlters', WHERE WHAT IT READS IS OF BULK AT MOST 1048576: true; the input reads as it did. -/
def clockAltersUptoRow : OpenClaim := { program := "ytkjaanhddkkodaagreat", sum := "0b584a554752451b7be78e003738acda0288233fc01c43eb277b4bfa07c24c74", func := "peloton/pelotonlaw09.ClockAlters", spec := "clockAlters", inPlace := ["math/bits.Sub64", "math/bits.Add64"], unfollowed := true, recurses := true, plainKeys := false, apart := false, narrowed := true }
def ClockAltersUptoSaid : Prop := clockAltersUptoRow.holds Tryz.pinned (OpenSpec.upto clockAltersSpec)

end Rows
end Go.Proofs.YtkjaanhddkkodaaGreat
