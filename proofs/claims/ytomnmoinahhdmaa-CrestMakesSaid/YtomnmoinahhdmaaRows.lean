/-
  No cell of these rows narrows 'for every input' (looked for: loops, veiled, ifaces, maps, wideKeys, modest, calm, conditions, laid).
  DERIVED. THE GIVEN ROWS OF THIS SEAT. 9 by the template 'for every input the law returns true; each argument reads behind the call as it read before'; 0 by the template 'total and deterministic' (their statements: YtomnmoinahhdmaaTotals.lean).
  GIVEN WITH THE SEED: the statements are not yours to turn. If you find one false, say at which input.
  Laid BY PROGRAM, IN A SANDBOX (cutbox-rows.mjs): the forced cells as the released guide's own fill.sh prints them over the translation 050dfc5917c82ce9… (all of the seat's roots in one cut). By AI agents, Wed Nov 11 2026. No macro, syntax, notation, axiom, sorry.
-/
import Derived.Test.YtomnmoinahhdmaaChecked
import GoSem.Claim
import GoSem.ClaimJoined
import GoSem.ClaimMapViews
import Derived.JoinedTies
import Derived.KernelRfl
namespace Go.Proofs.Ytomnmoinahhdmaa
/- THE CELL 'sum', in the pinned program and in every row, IS THE sha256 OF THE DUMP (.gsa) THAT YtomnmoinahhdmaaProg.lean LOADS. Nothing in Lean hashes anything: it is a label: what it is worth is what the hold of that sum in a sandbox is worth. -/
noncomputable def Try.pinned : Pinned := { name := "ytomnmoinahhdmaa", sum := "050dfc5917c82ce97dc159427c5db45a9c661e541dfb8872931397e67d7ed8e0", checked := Try.checked }
namespace Rows
def none {H : Type} : Left H := { results := [], args := [] }

/-- 'pelotonlaw04.MeetNames': WHATEVER THE INPUT: true; the input reads as it did. -/
def meetNamesSpec : ChangeSpec := { name := "meetNames", fn := fun _ => fun
  | [] => { results := [.lit (.bool true)], args := [] }
  | _ => none }
def meetNamesRow : OpenClaim := { program := "ytomnmoinahhdmaa", sum := "050dfc5917c82ce97dc159427c5db45a9c661e541dfb8872931397e67d7ed8e0", func := "peloton/pelotonlaw04.MeetNames", spec := "meetNames", inPlace := ["math/bits.Sub64", "math/bits.Add64"], unfollowed := true, recurses := true, apart := false }
def MeetNamesSaid : Prop := meetNamesRow.holds Try.pinned (OpenSpec.ofChange meetNamesSpec)

/-- ITS FALSE NEIGHBOUR: 'it returns false'. Refute it at one input. -/
def meetNamesWrong : ChangeSpec := { name := "meetNames", fn := fun _ => fun
  | [] => { results := [.lit (.bool false)], args := [] }
  | _ => none }
def MeetNamesWrongFalsely : Prop := meetNamesRow.holds Try.pinned (OpenSpec.ofChange meetNamesWrong)

/-- 'pelotonlaw04.MeetSwaps': WHATEVER THE INPUT: true; the input reads as it did. -/
def meetSwapsSpec : ChangeSpec := { name := "meetSwaps", fn := fun _ => fun
  | [d1, d2, d3] => { results := [.lit (.bool true)], args := [d1, d2, d3] }
  | _ => none }
def meetSwapsRow : OpenClaim := { program := "ytomnmoinahhdmaa", sum := "050dfc5917c82ce97dc159427c5db45a9c661e541dfb8872931397e67d7ed8e0", func := "peloton/pelotonlaw04.MeetSwaps", spec := "meetSwaps", inPlace := ["math/bits.Sub64", "math/bits.Add64"], unfollowed := true, recurses := true, apart := false }
def MeetSwapsSaid : Prop := meetSwapsRow.holds Try.pinned (OpenSpec.ofChange meetSwapsSpec)

/-- ITS FALSE NEIGHBOUR: 'it returns false'. Refute it at one input. -/
def meetSwapsWrong : ChangeSpec := { name := "meetSwaps", fn := fun _ => fun
  | [d1, d2, d3] => { results := [.lit (.bool false)], args := [d1, d2, d3] }
  | _ => none }
def MeetSwapsWrongFalsely : Prop := meetSwapsRow.holds Try.pinned (OpenSpec.ofChange meetSwapsWrong)

/-- 'pelotonlaw04.MeetParts': WHATEVER THE INPUT: true; the input reads as it did. -/
def meetPartsSpec : ChangeSpec := { name := "meetParts", fn := fun _ => fun
  | [d1, d2, d3, d4] => { results := [.lit (.bool true)], args := [d1, d2, d3, d4] }
  | _ => none }
def meetPartsRow : OpenClaim := { program := "ytomnmoinahhdmaa", sum := "050dfc5917c82ce97dc159427c5db45a9c661e541dfb8872931397e67d7ed8e0", func := "peloton/pelotonlaw04.MeetParts", spec := "meetParts", inPlace := ["math/bits.Sub64", "math/bits.Add64"], unfollowed := true, recurses := true, apart := false }
def MeetPartsSaid : Prop := meetPartsRow.holds Try.pinned (OpenSpec.ofChange meetPartsSpec)

/-- ITS FALSE NEIGHBOUR: 'it returns false'. Refute it at one input. -/
def meetPartsWrong : ChangeSpec := { name := "meetParts", fn := fun _ => fun
  | [d1, d2, d3, d4] => { results := [.lit (.bool false)], args := [d1, d2, d3, d4] }
  | _ => none }
def MeetPartsWrongFalsely : Prop := meetPartsRow.holds Try.pinned (OpenSpec.ofChange meetPartsWrong)

/-- 'pelotonlaw05.CrestNames': WHATEVER THE INPUT: true; the input reads as it did. -/
def crestNamesSpec : ChangeSpec := { name := "crestNames", fn := fun _ => fun
  | [] => { results := [.lit (.bool true)], args := [] }
  | _ => none }
def crestNamesRow : OpenClaim := { program := "ytomnmoinahhdmaa", sum := "050dfc5917c82ce97dc159427c5db45a9c661e541dfb8872931397e67d7ed8e0", func := "peloton/pelotonlaw05.CrestNames", spec := "crestNames", inPlace := ["math/bits.Sub64", "math/bits.Add64"], unfollowed := true, recurses := true, apart := false }
def CrestNamesSaid : Prop := crestNamesRow.holds Try.pinned (OpenSpec.ofChange crestNamesSpec)

/-- ITS FALSE NEIGHBOUR: 'it returns false'. Refute it at one input. -/
def crestNamesWrong : ChangeSpec := { name := "crestNames", fn := fun _ => fun
  | [] => { results := [.lit (.bool false)], args := [] }
  | _ => none }
def CrestNamesWrongFalsely : Prop := crestNamesRow.holds Try.pinned (OpenSpec.ofChange crestNamesWrong)

/-- 'pelotonlaw05.CrestMakes': WHATEVER THE INPUT: true; the input reads as it did. -/
def crestMakesSpec : ChangeSpec := { name := "crestMakes", fn := fun _ => fun
  | [d1, d2, d3, d4] => { results := [.lit (.bool true)], args := [d1, d2, d3, d4] }
  | _ => none }
def crestMakesRow : OpenClaim := { program := "ytomnmoinahhdmaa", sum := "050dfc5917c82ce97dc159427c5db45a9c661e541dfb8872931397e67d7ed8e0", func := "peloton/pelotonlaw05.CrestMakes", spec := "crestMakes", inPlace := ["math/bits.Sub64", "math/bits.Add64"], unfollowed := true, recurses := true, apart := false }
def CrestMakesSaid : Prop := crestMakesRow.holds Try.pinned (OpenSpec.ofChange crestMakesSpec)

/-- ITS FALSE NEIGHBOUR: 'it returns false'. Refute it at one input. -/
def crestMakesWrong : ChangeSpec := { name := "crestMakes", fn := fun _ => fun
  | [d1, d2, d3, d4] => { results := [.lit (.bool false)], args := [d1, d2, d3, d4] }
  | _ => none }
def CrestMakesWrongFalsely : Prop := crestMakesRow.holds Try.pinned (OpenSpec.ofChange crestMakesWrong)

/-- 'pelotonlaw05.CrestLeads': WHATEVER THE INPUT: true; the input reads as it did. -/
def crestLeadsSpec : ChangeSpec := { name := "crestLeads", fn := fun _ => fun
  | [d1, d2, d3] => { results := [.lit (.bool true)], args := [d1, d2, d3] }
  | _ => none }
def crestLeadsRow : OpenClaim := { program := "ytomnmoinahhdmaa", sum := "050dfc5917c82ce97dc159427c5db45a9c661e541dfb8872931397e67d7ed8e0", func := "peloton/pelotonlaw05.CrestLeads", spec := "crestLeads", inPlace := ["math/bits.Sub64", "math/bits.Add64"], unfollowed := true, recurses := true, apart := false }
def CrestLeadsSaid : Prop := crestLeadsRow.holds Try.pinned (OpenSpec.ofChange crestLeadsSpec)

/-- ITS FALSE NEIGHBOUR: 'it returns false'. Refute it at one input. -/
def crestLeadsWrong : ChangeSpec := { name := "crestLeads", fn := fun _ => fun
  | [d1, d2, d3] => { results := [.lit (.bool false)], args := [d1, d2, d3] }
  | _ => none }
def CrestLeadsWrongFalsely : Prop := crestLeadsRow.holds Try.pinned (OpenSpec.ofChange crestLeadsWrong)

/-- 'pelotonlaw05.CrestSpeeds': WHATEVER THE INPUT: true; the input reads as it did. -/
def crestSpeedsSpec : ChangeSpec := { name := "crestSpeeds", fn := fun _ => fun
  | [d1, d2] => { results := [.lit (.bool true)], args := [d1, d2] }
  | _ => none }
def crestSpeedsRow : OpenClaim := { program := "ytomnmoinahhdmaa", sum := "050dfc5917c82ce97dc159427c5db45a9c661e541dfb8872931397e67d7ed8e0", func := "peloton/pelotonlaw05.CrestSpeeds", spec := "crestSpeeds", inPlace := ["math/bits.Sub64", "math/bits.Add64"], unfollowed := true, recurses := true, apart := false }
def CrestSpeedsSaid : Prop := crestSpeedsRow.holds Try.pinned (OpenSpec.ofChange crestSpeedsSpec)

/-- ITS FALSE NEIGHBOUR: 'it returns false'. Refute it at one input. -/
def crestSpeedsWrong : ChangeSpec := { name := "crestSpeeds", fn := fun _ => fun
  | [d1, d2] => { results := [.lit (.bool false)], args := [d1, d2] }
  | _ => none }
def CrestSpeedsWrongFalsely : Prop := crestSpeedsRow.holds Try.pinned (OpenSpec.ofChange crestSpeedsWrong)

/-- 'pelotonlaw05.CrestLater': WHATEVER THE INPUT: true; the input reads as it did. -/
def crestLaterSpec : ChangeSpec := { name := "crestLater", fn := fun _ => fun
  | [d1, d2, d3] => { results := [.lit (.bool true)], args := [d1, d2, d3] }
  | _ => none }
def crestLaterRow : OpenClaim := { program := "ytomnmoinahhdmaa", sum := "050dfc5917c82ce97dc159427c5db45a9c661e541dfb8872931397e67d7ed8e0", func := "peloton/pelotonlaw05.CrestLater", spec := "crestLater", inPlace := ["math/bits.Sub64", "math/bits.Add64"], unfollowed := true, recurses := true, apart := false }
def CrestLaterSaid : Prop := crestLaterRow.holds Try.pinned (OpenSpec.ofChange crestLaterSpec)

/-- ITS FALSE NEIGHBOUR: 'it returns false'. Refute it at one input. -/
def crestLaterWrong : ChangeSpec := { name := "crestLater", fn := fun _ => fun
  | [d1, d2, d3] => { results := [.lit (.bool false)], args := [d1, d2, d3] }
  | _ => none }
def CrestLaterWrongFalsely : Prop := crestLaterRow.holds Try.pinned (OpenSpec.ofChange crestLaterWrong)

/-- 'pelotonlaw05.CrestParts': WHATEVER THE INPUT: true; the input reads as it did. -/
def crestPartsSpec : ChangeSpec := { name := "crestParts", fn := fun _ => fun
  | [d1, d2, d3, d4] => { results := [.lit (.bool true)], args := [d1, d2, d3, d4] }
  | _ => none }
def crestPartsRow : OpenClaim := { program := "ytomnmoinahhdmaa", sum := "050dfc5917c82ce97dc159427c5db45a9c661e541dfb8872931397e67d7ed8e0", func := "peloton/pelotonlaw05.CrestParts", spec := "crestParts", inPlace := ["math/bits.Sub64", "math/bits.Add64"], unfollowed := true, recurses := true, apart := false }
def CrestPartsSaid : Prop := crestPartsRow.holds Try.pinned (OpenSpec.ofChange crestPartsSpec)

/-- ITS FALSE NEIGHBOUR: 'it returns false'. Refute it at one input. -/
def crestPartsWrong : ChangeSpec := { name := "crestParts", fn := fun _ => fun
  | [d1, d2, d3, d4] => { results := [.lit (.bool false)], args := [d1, d2, d3, d4] }
  | _ => none }
def CrestPartsWrongFalsely : Prop := crestPartsRow.holds Try.pinned (OpenSpec.ofChange crestPartsWrong)

/- THE SECOND FORM. 'bulk': how many values and letters a reading holds, each counted each time it is reached (what is shared counts as often as it is met; a slice's spare places count too). A statement '..UptoSaid' is the law's where the arguments, and the package variables that the reading takes, are together of bulk at most 1048576: NARROWER than '..Said'. Prove '..Said' where nothing that the law and all that it calls make is longer than what came in: it says more and counts as full. Else prove '..UptoSaid'. A law counts once. -/
mutual
def uptoBulk {H : Type} : DataW H → Nat
  | .lit (.string bytes) => bytes.length + 1
  | .lit _ => 1
  | .nil => 1
  | .ptr d => uptoBulk d + 1
  | .slice elems spare => uptoBulkAll elems + uptoBulkAll spare + 1
  | .agg parts => uptoBulkAll parts + 1
  | .iface _ d => uptoBulk d + 1
  | .map entries => uptoBulkEntries entries + 1
  | .held _ => 1
def uptoBulkAll {H : Type} : List (DataW H) → Nat
  | [] => 0
  | d :: r => uptoBulk d + uptoBulkAll r
def uptoBulkEntries {H : Type} : List (Lit × DataW H) → Nat
  | [] => 0
  | x :: r => uptoBulkEntry x + uptoBulkEntries r
def uptoBulkEntry {H : Type} : Lit × DataW H → Nat
  | (.string bytes, d) => bytes.length + uptoBulk d + 1
  | (_, d) => uptoBulk d + 1
 end
def uptoSmall : (H : Type) → List (DataW H) → Bool := fun _ ds => decide (uptoBulkAll ds ≤ 1048576)
def OpenSpec.upto (s : _root_.Go.ChangeSpec) : _root_.Go.OpenSpec := { _root_.Go.OpenSpec.ofChange s with cond := some uptoSmall }

/-- 'pelotonlaw04.MeetNames', WHERE WHAT IT READS IS OF BULK AT MOST 1048576: true; the input reads as it did. -/
def meetNamesUptoRow : OpenClaim := { program := "ytomnmoinahhdmaa", sum := "050dfc5917c82ce97dc159427c5db45a9c661e541dfb8872931397e67d7ed8e0", func := "peloton/pelotonlaw04.MeetNames", spec := "meetNames", inPlace := ["math/bits.Sub64", "math/bits.Add64"], unfollowed := true, recurses := true, apart := false, narrowed := true }
def MeetNamesUptoSaid : Prop := meetNamesUptoRow.holds Try.pinned (OpenSpec.upto meetNamesSpec)

/-- 'pelotonlaw04.MeetSwaps', WHERE WHAT IT READS IS OF BULK AT MOST 1048576: true; the input reads as it did. -/
def meetSwapsUptoRow : OpenClaim := { program := "ytomnmoinahhdmaa", sum := "050dfc5917c82ce97dc159427c5db45a9c661e541dfb8872931397e67d7ed8e0", func := "peloton/pelotonlaw04.MeetSwaps", spec := "meetSwaps", inPlace := ["math/bits.Sub64", "math/bits.Add64"], unfollowed := true, recurses := true, apart := false, narrowed := true }
def MeetSwapsUptoSaid : Prop := meetSwapsUptoRow.holds Try.pinned (OpenSpec.upto meetSwapsSpec)

/-- 'pelotonlaw04.MeetParts', WHERE WHAT IT READS IS OF BULK AT MOST 1048576: true; the input reads as it did. -/
def meetPartsUptoRow : OpenClaim := { program := "ytomnmoinahhdmaa", sum := "050dfc5917c82ce97dc159427c5db45a9c661e541dfb8872931397e67d7ed8e0", func := "peloton/pelotonlaw04.MeetParts", spec := "meetParts", inPlace := ["math/bits.Sub64", "math/bits.Add64"], unfollowed := true, recurses := true, apart := false, narrowed := true }
def MeetPartsUptoSaid : Prop := meetPartsUptoRow.holds Try.pinned (OpenSpec.upto meetPartsSpec)

/-- 'pelotonlaw05.CrestNames', WHERE WHAT IT READS IS OF BULK AT MOST 1048576: true; the input reads as it did. -/
def crestNamesUptoRow : OpenClaim := { program := "ytomnmoinahhdmaa", sum := "050dfc5917c82ce97dc159427c5db45a9c661e541dfb8872931397e67d7ed8e0", func := "peloton/pelotonlaw05.CrestNames", spec := "crestNames", inPlace := ["math/bits.Sub64", "math/bits.Add64"], unfollowed := true, recurses := true, apart := false, narrowed := true }
def CrestNamesUptoSaid : Prop := crestNamesUptoRow.holds Try.pinned (OpenSpec.upto crestNamesSpec)

/-- 'pelotonlaw05.CrestMakes', WHERE WHAT IT READS IS OF BULK AT MOST 1048576: true; the input reads as it did. -/
def crestMakesUptoRow : OpenClaim := { program := "ytomnmoinahhdmaa", sum := "050dfc5917c82ce97dc159427c5db45a9c661e541dfb8872931397e67d7ed8e0", func := "peloton/pelotonlaw05.CrestMakes", spec := "crestMakes", inPlace := ["math/bits.Sub64", "math/bits.Add64"], unfollowed := true, recurses := true, apart := false, narrowed := true }
def CrestMakesUptoSaid : Prop := crestMakesUptoRow.holds Try.pinned (OpenSpec.upto crestMakesSpec)

/-- 'pelotonlaw05.CrestLeads', WHERE WHAT IT READS IS OF BULK AT MOST 1048576: true; the input reads as it did. -/
def crestLeadsUptoRow : OpenClaim := { program := "ytomnmoinahhdmaa", sum := "050dfc5917c82ce97dc159427c5db45a9c661e541dfb8872931397e67d7ed8e0", func := "peloton/pelotonlaw05.CrestLeads", spec := "crestLeads", inPlace := ["math/bits.Sub64", "math/bits.Add64"], unfollowed := true, recurses := true, apart := false, narrowed := true }
def CrestLeadsUptoSaid : Prop := crestLeadsUptoRow.holds Try.pinned (OpenSpec.upto crestLeadsSpec)

/-- 'pelotonlaw05.CrestSpeeds', WHERE WHAT IT READS IS OF BULK AT MOST 1048576: true; the input reads as it did. -/
def crestSpeedsUptoRow : OpenClaim := { program := "ytomnmoinahhdmaa", sum := "050dfc5917c82ce97dc159427c5db45a9c661e541dfb8872931397e67d7ed8e0", func := "peloton/pelotonlaw05.CrestSpeeds", spec := "crestSpeeds", inPlace := ["math/bits.Sub64", "math/bits.Add64"], unfollowed := true, recurses := true, apart := false, narrowed := true }
def CrestSpeedsUptoSaid : Prop := crestSpeedsUptoRow.holds Try.pinned (OpenSpec.upto crestSpeedsSpec)

/-- 'pelotonlaw05.CrestLater', WHERE WHAT IT READS IS OF BULK AT MOST 1048576: true; the input reads as it did. -/
def crestLaterUptoRow : OpenClaim := { program := "ytomnmoinahhdmaa", sum := "050dfc5917c82ce97dc159427c5db45a9c661e541dfb8872931397e67d7ed8e0", func := "peloton/pelotonlaw05.CrestLater", spec := "crestLater", inPlace := ["math/bits.Sub64", "math/bits.Add64"], unfollowed := true, recurses := true, apart := false, narrowed := true }
def CrestLaterUptoSaid : Prop := crestLaterUptoRow.holds Try.pinned (OpenSpec.upto crestLaterSpec)

/-- 'pelotonlaw05.CrestParts', WHERE WHAT IT READS IS OF BULK AT MOST 1048576: true; the input reads as it did. -/
def crestPartsUptoRow : OpenClaim := { program := "ytomnmoinahhdmaa", sum := "050dfc5917c82ce97dc159427c5db45a9c661e541dfb8872931397e67d7ed8e0", func := "peloton/pelotonlaw05.CrestParts", spec := "crestParts", inPlace := ["math/bits.Sub64", "math/bits.Add64"], unfollowed := true, recurses := true, apart := false, narrowed := true }
def CrestPartsUptoSaid : Prop := crestPartsUptoRow.holds Try.pinned (OpenSpec.upto crestPartsSpec)

end Rows
end Go.Proofs.Ytomnmoinahhdmaa
