/-
  No cell of these rows narrows 'for every input' (looked for: loops, veiled, ifaces, maps, wideKeys, modest, calm, conditions, laid).
  DERIVED. THE GIVEN ROWS OF THIS SEAT. 6 by the template 'for every input the law returns true; each argument reads behind the call as it read before'; 0 by the template 'total and deterministic' (their statements: YtjjmnoiffpnphaaTotals.lean).
  GIVEN WITH THE SEED: the statements are not yours to turn. If you find one false, say at which input.
  Laid BY PROGRAM, IN A SANDBOX (cutbox-rows.mjs): the forced cells as the released guide's own fill.sh prints them over the translation cffa376fd8716b41… (all of the seat's roots in one cut). By AI agents, Wed Nov 11 2026. No macro, syntax, notation, axiom, sorry.
-/
import Derived.Test.YtjjmnoiffpnphaaChecked
import GoSem.Claim
import GoSem.ClaimJoined
import GoSem.ClaimMapViews
import Derived.JoinedTies
import Derived.KernelRfl
namespace Go.Proofs.Ytjjmnoiffpnphaa
/- THE CELL 'sum', in the pinned program and in every row, IS THE sha256 OF THE DUMP (.gsa) THAT YtjjmnoiffpnphaaProg.lean LOADS. Nothing in Lean hashes anything: it is a label: what it is worth is what the hold of that sum in a sandbox is worth. -/
noncomputable def Try.pinned : Pinned := { name := "ytjjmnoiffpnphaa", sum := "cffa376fd8716b41fa525b23931cbd599d125a04818c26a491136e037dcce2b0", checked := Try.checked }
namespace Rows
def none {H : Type} : Left H := { results := [], args := [] }

/-- 'pelotonlaw08.CertNames': WHATEVER THE INPUT: true; the input reads as it did. -/
def certNamesSpec : ChangeSpec := { name := "certNames", fn := fun _ => fun
  | [] => { results := [.lit (.bool true)], args := [] }
  | _ => none }
def certNamesRow : OpenClaim := { program := "ytjjmnoiffpnphaa", sum := "cffa376fd8716b41fa525b23931cbd599d125a04818c26a491136e037dcce2b0", func := "peloton/pelotonlaw08.CertNames", spec := "certNames", inPlace := ["math/bits.Sub64", "math/bits.Add64"], unfollowed := true, recurses := true, plainKeys := false, apart := false }
def CertNamesSaid : Prop := certNamesRow.holds Try.pinned (OpenSpec.ofChange certNamesSpec)

/-- ITS FALSE NEIGHBOUR: 'it returns false'. Refute it at one input. -/
def certNamesWrong : ChangeSpec := { name := "certNames", fn := fun _ => fun
  | [] => { results := [.lit (.bool false)], args := [] }
  | _ => none }
def CertNamesWrongFalsely : Prop := certNamesRow.holds Try.pinned (OpenSpec.ofChange certNamesWrong)

/-- 'pelotonlaw08.CertKeeps': WHATEVER THE INPUT: true; the input reads as it did. -/
def certKeepsSpec : ChangeSpec := { name := "certKeeps", fn := fun _ => fun
  | [d1, d2, d3, d4] => { results := [.lit (.bool true)], args := [d1, d2, d3, d4] }
  | _ => none }
def certKeepsRow : OpenClaim := { program := "ytjjmnoiffpnphaa", sum := "cffa376fd8716b41fa525b23931cbd599d125a04818c26a491136e037dcce2b0", func := "peloton/pelotonlaw08.CertKeeps", spec := "certKeeps", unfollowed := true, recurses := true, plainKeys := false, apart := false }
def CertKeepsSaid : Prop := certKeepsRow.holds Try.pinned (OpenSpec.ofChange certKeepsSpec)

/-- ITS FALSE NEIGHBOUR: 'it returns false'. Refute it at one input. -/
def certKeepsWrong : ChangeSpec := { name := "certKeeps", fn := fun _ => fun
  | [d1, d2, d3, d4] => { results := [.lit (.bool false)], args := [d1, d2, d3, d4] }
  | _ => none }
def CertKeepsWrongFalsely : Prop := certKeepsRow.holds Try.pinned (OpenSpec.ofChange certKeepsWrong)

/-- 'pelotonlaw08.CertTrue': WHATEVER THE INPUT: true; the input reads as it did. -/
def certTrueSpec : ChangeSpec := { name := "certTrue", fn := fun _ => fun
  | [d1, d2, d3] => { results := [.lit (.bool true)], args := [d1, d2, d3] }
  | _ => none }
def certTrueRow : OpenClaim := { program := "ytjjmnoiffpnphaa", sum := "cffa376fd8716b41fa525b23931cbd599d125a04818c26a491136e037dcce2b0", func := "peloton/pelotonlaw08.CertTrue", spec := "certTrue", inPlace := ["math/bits.Sub64", "math/bits.Add64"], unfollowed := true, recurses := true, plainKeys := false, apart := false }
def CertTrueSaid : Prop := certTrueRow.holds Try.pinned (OpenSpec.ofChange certTrueSpec)

/-- ITS FALSE NEIGHBOUR: 'it returns false'. Refute it at one input. -/
def certTrueWrong : ChangeSpec := { name := "certTrue", fn := fun _ => fun
  | [d1, d2, d3] => { results := [.lit (.bool false)], args := [d1, d2, d3] }
  | _ => none }
def CertTrueWrongFalsely : Prop := certTrueRow.holds Try.pinned (OpenSpec.ofChange certTrueWrong)

/-- 'pelotonlaw08.CertLists': WHATEVER THE INPUT: true; the input reads as it did. -/
def certListsSpec : ChangeSpec := { name := "certLists", fn := fun _ => fun
  | [d1, d2] => { results := [.lit (.bool true)], args := [d1, d2] }
  | _ => none }
def certListsRow : OpenClaim := { program := "ytjjmnoiffpnphaa", sum := "cffa376fd8716b41fa525b23931cbd599d125a04818c26a491136e037dcce2b0", func := "peloton/pelotonlaw08.CertLists", spec := "certLists", inPlace := ["math/bits.Sub64", "math/bits.Add64"], unfollowed := true, recurses := true, plainKeys := false, apart := false }
def CertListsSaid : Prop := certListsRow.holds Try.pinned (OpenSpec.ofChange certListsSpec)

/-- ITS FALSE NEIGHBOUR: 'it returns false'. Refute it at one input. -/
def certListsWrong : ChangeSpec := { name := "certLists", fn := fun _ => fun
  | [d1, d2] => { results := [.lit (.bool false)], args := [d1, d2] }
  | _ => none }
def CertListsWrongFalsely : Prop := certListsRow.holds Try.pinned (OpenSpec.ofChange certListsWrong)

/-- 'pelotonlaw08.CertBack': WHATEVER THE INPUT: true; the input reads as it did. -/
def certBackSpec : ChangeSpec := { name := "certBack", fn := fun _ => fun
  | [d1, d2, d3] => { results := [.lit (.bool true)], args := [d1, d2, d3] }
  | _ => none }
def certBackRow : OpenClaim := { program := "ytjjmnoiffpnphaa", sum := "cffa376fd8716b41fa525b23931cbd599d125a04818c26a491136e037dcce2b0", func := "peloton/pelotonlaw08.CertBack", spec := "certBack", inPlace := ["math/bits.Sub64", "math/bits.Add64"], unfollowed := true, recurses := true, plainKeys := false, apart := false }
def CertBackSaid : Prop := certBackRow.holds Try.pinned (OpenSpec.ofChange certBackSpec)

/-- ITS FALSE NEIGHBOUR: 'it returns false'. Refute it at one input. -/
def certBackWrong : ChangeSpec := { name := "certBack", fn := fun _ => fun
  | [d1, d2, d3] => { results := [.lit (.bool false)], args := [d1, d2, d3] }
  | _ => none }
def CertBackWrongFalsely : Prop := certBackRow.holds Try.pinned (OpenSpec.ofChange certBackWrong)

/-- 'pelotonlaw08.CertOne': WHATEVER THE INPUT: true; the input reads as it did. -/
def certOneSpec : ChangeSpec := { name := "certOne", fn := fun _ => fun
  | [d1, d2, d3, d4] => { results := [.lit (.bool true)], args := [d1, d2, d3, d4] }
  | _ => none }
def certOneRow : OpenClaim := { program := "ytjjmnoiffpnphaa", sum := "cffa376fd8716b41fa525b23931cbd599d125a04818c26a491136e037dcce2b0", func := "peloton/pelotonlaw08.CertOne", spec := "certOne", inPlace := ["math/bits.Sub64", "math/bits.Add64"], unfollowed := true, recurses := true, plainKeys := false, apart := false }
def CertOneSaid : Prop := certOneRow.holds Try.pinned (OpenSpec.ofChange certOneSpec)

/-- ITS FALSE NEIGHBOUR: 'it returns false'. Refute it at one input. -/
def certOneWrong : ChangeSpec := { name := "certOne", fn := fun _ => fun
  | [d1, d2, d3, d4] => { results := [.lit (.bool false)], args := [d1, d2, d3, d4] }
  | _ => none }
def CertOneWrongFalsely : Prop := certOneRow.holds Try.pinned (OpenSpec.ofChange certOneWrong)

/- THE SECOND FORM. 'bulk': how many values and letters a reading holds, each counted each time it is reached (what is shared counts as often as it is met; a slice's spare places count too). A statement '..UptoSaid' is the law's where the arguments, and the package variables that the reading takes, are together of bulk at most 1048576: NARROWER than '..Said'. Prove '..Said' where nothing that the law and all that it calls make is longer than what came in: it says more and counts as full. Else prove '..UptoSaid'. A law counts once. -/
mutual
def uptoBulk {H : Type} : DataW H → Nat
  | .lit (.string bytes) => bytes.length + 1
  | .lit _ => 1
  | .nil => 1
  | .ptr d => uptoBulk d + 1
  | .slice elems spare => uptoBulkAll elems + uptoBulkAll spare + 1
  | .agg parts => uptoBulkAll parts + 1
  | .iface _ d => uptoBulk d + 1
  | .map entries => uptoBulkEntries entries + 1
  | .held _ => 1
def uptoBulkAll {H : Type} : List (DataW H) → Nat
  | [] => 0
  | d :: r => uptoBulk d + uptoBulkAll r
def uptoBulkEntries {H : Type} : List (Lit × DataW H) → Nat
  | [] => 0
  | x :: r => uptoBulkEntry x + uptoBulkEntries r
def uptoBulkEntry {H : Type} : Lit × DataW H → Nat
  | (.string bytes, d) => bytes.length + uptoBulk d + 1
  | (_, d) => uptoBulk d + 1
 end
def uptoSmall : (H : Type) → List (DataW H) → Bool := fun _ ds => decide (uptoBulkAll ds ≤ 1048576)
def OpenSpec.upto (s : _root_.Go.ChangeSpec) : _root_.Go.OpenSpec := { _root_.Go.OpenSpec.ofChange s with cond := some uptoSmall }

/-- 'pelotonlaw08.CertNames', WHERE WHAT IT READS IS OF BULK AT MOST 1048576: true; the input reads as it did. -/
def certNamesUptoRow : OpenClaim := { program := "ytjjmnoiffpnphaa", sum := "cffa376fd8716b41fa525b23931cbd599d125a04818c26a491136e037dcce2b0", func := "peloton/pelotonlaw08.CertNames", spec := "certNames", inPlace := ["math/bits.Sub64", "math/bits.Add64"], unfollowed := true, recurses := true, plainKeys := false, apart := false, narrowed := true }
def CertNamesUptoSaid : Prop := certNamesUptoRow.holds Try.pinned (OpenSpec.upto certNamesSpec)

/-- 'pelotonlaw08.CertKeeps', WHERE WHAT IT READS IS OF BULK AT MOST 1048576: true; the input reads as it did. -/
def certKeepsUptoRow : OpenClaim := { program := "ytjjmnoiffpnphaa", sum := "cffa376fd8716b41fa525b23931cbd599d125a04818c26a491136e037dcce2b0", func := "peloton/pelotonlaw08.CertKeeps", spec := "certKeeps", unfollowed := true, recurses := true, plainKeys := false, apart := false, narrowed := true }
def CertKeepsUptoSaid : Prop := certKeepsUptoRow.holds Try.pinned (OpenSpec.upto certKeepsSpec)

/-- 'pelotonlaw08.CertTrue', WHERE WHAT IT READS IS OF BULK AT MOST 1048576: true; the input reads as it did. -/
def certTrueUptoRow : OpenClaim := { program := "ytjjmnoiffpnphaa", sum := "cffa376fd8716b41fa525b23931cbd599d125a04818c26a491136e037dcce2b0", func := "peloton/pelotonlaw08.CertTrue", spec := "certTrue", inPlace := ["math/bits.Sub64", "math/bits.Add64"], unfollowed := true, recurses := true, plainKeys := false, apart := false, narrowed := true }
def CertTrueUptoSaid : Prop := certTrueUptoRow.holds Try.pinned (OpenSpec.upto certTrueSpec)

/-- 'pelotonlaw08.CertLists', WHERE WHAT IT READS IS OF BULK AT MOST 1048576: true; the input reads as it did. -/
def certListsUptoRow : OpenClaim := { program := "ytjjmnoiffpnphaa", sum := "cffa376fd8716b41fa525b23931cbd599d125a04818c26a491136e037dcce2b0", func := "peloton/pelotonlaw08.CertLists", spec := "certLists", inPlace := ["math/bits.Sub64", "math/bits.Add64"], unfollowed := true, recurses := true, plainKeys := false, apart := false, narrowed := true }
def CertListsUptoSaid : Prop := certListsUptoRow.holds Try.pinned (OpenSpec.upto certListsSpec)

/-- 'pelotonlaw08.CertBack', WHERE WHAT IT READS IS OF BULK AT MOST 1048576: true; the input reads as it did. -/
def certBackUptoRow : OpenClaim := { program := "ytjjmnoiffpnphaa", sum := "cffa376fd8716b41fa525b23931cbd599d125a04818c26a491136e037dcce2b0", func := "peloton/pelotonlaw08.CertBack", spec := "certBack", inPlace := ["math/bits.Sub64", "math/bits.Add64"], unfollowed := true, recurses := true, plainKeys := false, apart := false, narrowed := true }
def CertBackUptoSaid : Prop := certBackUptoRow.holds Try.pinned (OpenSpec.upto certBackSpec)

/-- 'pelotonlaw08.CertOne', WHERE WHAT IT READS IS OF BULK AT MOST 1048576: true; the input reads as it did. -/
def certOneUptoRow : OpenClaim := { program := "ytjjmnoiffpnphaa", sum := "cffa376fd8716b41fa525b23931cbd599d125a04818c26a491136e037dcce2b0", func := "peloton/pelotonlaw08.CertOne", spec := "certOne", inPlace := ["math/bits.Sub64", "math/bits.Add64"], unfollowed := true, recurses := true, plainKeys := false, apart := false, narrowed := true }
def CertOneUptoSaid : Prop := certOneUptoRow.holds Try.pinned (OpenSpec.upto certOneSpec)

end Rows
end Go.Proofs.Ytjjmnoiffpnphaa
