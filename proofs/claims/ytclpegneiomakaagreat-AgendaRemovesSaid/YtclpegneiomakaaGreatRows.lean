/-
  No cell of these rows narrows 'for every input' (looked for: loops, veiled, ifaces, maps, wideKeys, modest, calm, conditions, laid).
  DERIVED. THE GIVEN ROWS OF THIS SEAT. 6 by the template 'for every input the law returns true; each argument reads behind the call as it read before'; 0 by the template 'total and deterministic' (their statements: YtclpegneiomakaaGreatTotals.lean).
  GIVEN WITH THE SEED: the statements are not yours to turn. If you find one false, say at which input.
  Laid BY PROGRAM, IN A SANDBOX (cutbox-rows.mjs): the forced cells as the released guide's own fill.sh prints them over the translation c27c682e37069fb1… (all of the seat's roots in one cut). By AI agents, Wed Nov 11 2026. No macro, syntax, notation, axiom, sorry.
-/
import Derived.Test.YtclpegneiomakaaGreatChecked
import GoSem.Claim
import GoSem.ClaimJoined
import GoSem.ClaimMapViews
import Derived.JoinedTies
import Derived.KernelRfl
namespace Go.Proofs.YtclpegneiomakaaGreat
/- THE CELL 'sum', in the pinned program and in every row, IS THE sha256 OF THE DUMP (.gsa) THAT YtclpegneiomakaaGreatProg.lean LOADS. Nothing in Lean hashes anything: it is a label: what it is worth is what the hold of that sum in a sandbox is worth. -/
noncomputable def Tryz.pinned : Pinned := { name := "ytclpegneiomakaagreat", sum := "c27c682e37069fb11563b3331f15bbf609eedcde5a705338fdd2ee68c59dfeac", checked := Tryz.checked }
namespace Rows
def none {H : Type} : Left H := { results := [], args := [] }

/-- 'pelotonlaw07.AgendaNames': WHATEVER THE INPUT: true; the input reads as it did. -/
def agendaNamesSpec : ChangeSpec := { name := "agendaNames", fn := fun _ => fun
  | [] => { results := [.lit (.bool true)], args := [] }
  | _ => none }
def agendaNamesRow : OpenClaim := { program := "ytclpegneiomakaagreat", sum := "c27c682e37069fb11563b3331f15bbf609eedcde5a705338fdd2ee68c59dfeac", func := "peloton/pelotonlaw07.AgendaNames", spec := "agendaNames", inPlace := ["math/bits.Sub64", "math/bits.Add64"], unfollowed := true, recurses := true, apart := false }
def AgendaNamesSaid : Prop := agendaNamesRow.holds Tryz.pinned (OpenSpec.ofChange agendaNamesSpec)

/-- ITS FALSE NEIGHBOUR: 'it returns false'. Refute it at one input. -/
def agendaNamesWrong : ChangeSpec := { name := "agendaNames", fn := fun _ => fun
  | [] => { results := [.lit (.bool false)], args := [] }
  | _ => none }
def AgendaNamesWrongFalsely : Prop := agendaNamesRow.holds Tryz.pinned (OpenSpec.ofChange agendaNamesWrong)

/-- 'pelotonlaw07.AgendaPushes': WHATEVER THE INPUT: true; the input reads as it did. -/
def agendaPushesSpec : ChangeSpec := { name := "agendaPushes", fn := fun _ => fun
  | [d1, d2, d3, d4, d5] => { results := [.lit (.bool true)], args := [d1, d2, d3, d4, d5] }
  | _ => none }
def agendaPushesRow : OpenClaim := { program := "ytclpegneiomakaagreat", sum := "c27c682e37069fb11563b3331f15bbf609eedcde5a705338fdd2ee68c59dfeac", func := "peloton/pelotonlaw07.AgendaPushes", spec := "agendaPushes", inPlace := ["math/bits.Sub64", "math/bits.Add64"], unfollowed := true, recurses := true, apart := false }
def AgendaPushesSaid : Prop := agendaPushesRow.holds Tryz.pinned (OpenSpec.ofChange agendaPushesSpec)

/-- ITS FALSE NEIGHBOUR: 'it returns false'. Refute it at one input. -/
def agendaPushesWrong : ChangeSpec := { name := "agendaPushes", fn := fun _ => fun
  | [d1, d2, d3, d4, d5] => { results := [.lit (.bool false)], args := [d1, d2, d3, d4, d5] }
  | _ => none }
def AgendaPushesWrongFalsely : Prop := agendaPushesRow.holds Tryz.pinned (OpenSpec.ofChange agendaPushesWrong)

/-- 'pelotonlaw07.AgendaRemoves': WHATEVER THE INPUT: true; the input reads as it did. -/
def agendaRemovesSpec : ChangeSpec := { name := "agendaRemoves", fn := fun _ => fun
  | [d1, d2, d3] => { results := [.lit (.bool true)], args := [d1, d2, d3] }
  | _ => none }
def agendaRemovesRow : OpenClaim := { program := "ytclpegneiomakaagreat", sum := "c27c682e37069fb11563b3331f15bbf609eedcde5a705338fdd2ee68c59dfeac", func := "peloton/pelotonlaw07.AgendaRemoves", spec := "agendaRemoves", inPlace := ["math/bits.Sub64", "math/bits.Add64"], unfollowed := true, recurses := true, apart := false }
def AgendaRemovesSaid : Prop := agendaRemovesRow.holds Tryz.pinned (OpenSpec.ofChange agendaRemovesSpec)

/-- ITS FALSE NEIGHBOUR: 'it returns false'. Refute it at one input. -/
def agendaRemovesWrong : ChangeSpec := { name := "agendaRemoves", fn := fun _ => fun
  | [d1, d2, d3] => { results := [.lit (.bool false)], args := [d1, d2, d3] }
  | _ => none }
def AgendaRemovesWrongFalsely : Prop := agendaRemovesRow.holds Tryz.pinned (OpenSpec.ofChange agendaRemovesWrong)

/-- 'pelotonlaw07.AgendaOrder': WHATEVER THE INPUT: true; the input reads as it did. -/
def agendaOrderSpec : ChangeSpec := { name := "agendaOrder", fn := fun _ => fun
  | [d] => { results := [.lit (.bool true)], args := [d] }
  | _ => none }
def agendaOrderRow : OpenClaim := { program := "ytclpegneiomakaagreat", sum := "c27c682e37069fb11563b3331f15bbf609eedcde5a705338fdd2ee68c59dfeac", func := "peloton/pelotonlaw07.AgendaOrder", spec := "agendaOrder", inPlace := ["math/bits.Sub64", "math/bits.Add64"], unfollowed := true, recurses := true, apart := false }
def AgendaOrderSaid : Prop := agendaOrderRow.holds Tryz.pinned (OpenSpec.ofChange agendaOrderSpec)

/-- ITS FALSE NEIGHBOUR: 'it returns false'. Refute it at one input. -/
def agendaOrderWrong : ChangeSpec := { name := "agendaOrder", fn := fun _ => fun
  | [d] => { results := [.lit (.bool false)], args := [d] }
  | _ => none }
def AgendaOrderWrongFalsely : Prop := agendaOrderRow.holds Tryz.pinned (OpenSpec.ofChange agendaOrderWrong)

/-- 'pelotonlaw07.AgendaHandles': WHATEVER THE INPUT: true; the input reads as it did. -/
def agendaHandlesSpec : ChangeSpec := { name := "agendaHandles", fn := fun _ => fun
  | [d1, d2, d3] => { results := [.lit (.bool true)], args := [d1, d2, d3] }
  | _ => none }
def agendaHandlesRow : OpenClaim := { program := "ytclpegneiomakaagreat", sum := "c27c682e37069fb11563b3331f15bbf609eedcde5a705338fdd2ee68c59dfeac", func := "peloton/pelotonlaw07.AgendaHandles", spec := "agendaHandles", inPlace := ["math/bits.Sub64", "math/bits.Add64"], unfollowed := true, recurses := true, apart := false }
def AgendaHandlesSaid : Prop := agendaHandlesRow.holds Tryz.pinned (OpenSpec.ofChange agendaHandlesSpec)

/-- ITS FALSE NEIGHBOUR: 'it returns false'. Refute it at one input. -/
def agendaHandlesWrong : ChangeSpec := { name := "agendaHandles", fn := fun _ => fun
  | [d1, d2, d3] => { results := [.lit (.bool false)], args := [d1, d2, d3] }
  | _ => none }
def AgendaHandlesWrongFalsely : Prop := agendaHandlesRow.holds Tryz.pinned (OpenSpec.ofChange agendaHandlesWrong)

/-- 'pelotonlaw07.AgendaBack': WHATEVER THE INPUT: true; the input reads as it did. -/
def agendaBackSpec : ChangeSpec := { name := "agendaBack", fn := fun _ => fun
  | [d1, d2, d3, d4] => { results := [.lit (.bool true)], args := [d1, d2, d3, d4] }
  | _ => none }
def agendaBackRow : OpenClaim := { program := "ytclpegneiomakaagreat", sum := "c27c682e37069fb11563b3331f15bbf609eedcde5a705338fdd2ee68c59dfeac", func := "peloton/pelotonlaw07.AgendaBack", spec := "agendaBack", inPlace := ["math/bits.Sub64", "math/bits.Add64"], unfollowed := true, recurses := true, apart := false }
def AgendaBackSaid : Prop := agendaBackRow.holds Tryz.pinned (OpenSpec.ofChange agendaBackSpec)

/-- ITS FALSE NEIGHBOUR: 'it returns false'. Refute it at one input. -/
def agendaBackWrong : ChangeSpec := { name := "agendaBack", fn := fun _ => fun
  | [d1, d2, d3, d4] => { results := [.lit (.bool false)], args := [d1, d2, d3, d4] }
  | _ => none }
def AgendaBackWrongFalsely : Prop := agendaBackRow.holds Tryz.pinned (OpenSpec.ofChange agendaBackWrong)

/- THE SECOND FORM. 'bulk': how many values and letters a reading holds, each counted each time it is reached (what is shared counts as often as it is met; a slice's spare places count too). A statement '..UptoSaid' is the law's where the arguments, and the package variables that the reading takes, are together of bulk at most 1048576: NARROWER than '..Said'. Prove '..Said' where nothing that the law and all that it calls make is longer than what came in: it says more and counts as full. Else prove '..UptoSaid'. A law counts once. -/
mutual
def uptoBulk {H : Type} : DataW H → Nat
  | .lit (.string bytes) => bytes.length + 1
  | .lit _ => 1
  | .nil => 1
  | .ptr d => uptoBulk d + 1
  | .slice elems spare => uptoBulkAll elems + uptoBulkAll spare + 1
  | .agg parts => uptoBulkAll parts + 1
  | .iface _ d => uptoBulk d + 1
  | .map entries => uptoBulkEntries entries + 1
  | .held _ => 1
def uptoBulkAll {H : Type} : List (DataW H) → Nat
  | [] => 0
  | d :: r => uptoBulk d + uptoBulkAll r
def uptoBulkEntries {H : Type} : List (Lit × DataW H) → Nat
  | [] => 0
  | x :: r => uptoBulkEntry x + uptoBulkEntries r
def uptoBulkEntry {H : Type} : Lit × DataW H → Nat
  | (.string bytes, d) => bytes.length + uptoBulk d + 1
  | (_, d) => uptoBulk d + 1
 end
def uptoSmall : (H : Type) → List (DataW H) → Bool := fun _ ds => decide (uptoBulkAll ds ≤ 1048576)
def OpenSpec.upto (s : _root_.Go.ChangeSpec) : _root_.Go.OpenSpec := { _root_.Go.OpenSpec.ofChange s with cond := some uptoSmall }

/-- 'pelotonlaw07.AgendaNames', WHERE WHAT IT READS IS OF BULK AT MOST 1048576: true; the input reads as it did. -/
def agendaNamesUptoRow : OpenClaim := { program := "ytclpegneiomakaagreat", sum := "c27c682e37069fb11563b3331f15bbf609eedcde5a705338fdd2ee68c59dfeac", func := "peloton/pelotonlaw07.AgendaNames", spec := "agendaNames", inPlace := ["math/bits.Sub64", "math/bits.Add64"], unfollowed := true, recurses := true, apart := false, narrowed := true }
def AgendaNamesUptoSaid : Prop := agendaNamesUptoRow.holds Tryz.pinned (OpenSpec.upto agendaNamesSpec)

/-- 'pelotonlaw07.AgendaPushes', WHERE WHAT IT READS IS OF BULK AT MOST 1048576: true; the input reads as it did. -/
def agendaPushesUptoRow : OpenClaim := { program := "ytclpegneiomakaagreat", sum := "c27c682e37069fb11563b3331f15bbf609eedcde5a705338fdd2ee68c59dfeac", func := "peloton/pelotonlaw07.AgendaPushes", spec := "agendaPushes", inPlace := ["math/bits.Sub64", "math/bits.Add64"], unfollowed := true, recurses := true, apart := false, narrowed := true }
def AgendaPushesUptoSaid : Prop := agendaPushesUptoRow.holds Tryz.pinned (OpenSpec.upto agendaPushesSpec)

/-- 'pelotonlaw07.AgendaRemoves', WHERE WHAT IT READS IS OF BULK AT MOST 1048576: true; the input reads as it did. -/
def agendaRemovesUptoRow : OpenClaim := { program := "ytclpegneiomakaagreat", sum := "c27c682e37069fb11563b3331f15bbf609eedcde5a705338fdd2ee68c59dfeac", func := "peloton/pelotonlaw07.AgendaRemoves", spec := "agendaRemoves", inPlace := ["math/bits.Sub64", "math/bits.Add64"], unfollowed := true, recurses := true, apart := false, narrowed := true }
def AgendaRemovesUptoSaid : Prop := agendaRemovesUptoRow.holds Tryz.pinned (OpenSpec.upto agendaRemovesSpec)

/-- 'pelotonlaw07.AgendaOrder', WHERE WHAT IT READS IS OF BULK AT MOST 1048576: true; the input reads as it did. -/
def agendaOrderUptoRow : OpenClaim := { program := "ytclpegneiomakaagreat", sum := "c27c682e37069fb11563b3331f15bbf609eedcde5a705338fdd2ee68c59dfeac", func := "peloton/pelotonlaw07.AgendaOrder", spec := "agendaOrder", inPlace := ["math/bits.Sub64", "math/bits.Add64"], unfollowed := true, recurses := true, apart := false, narrowed := true }
def AgendaOrderUptoSaid : Prop := agendaOrderUptoRow.holds Tryz.pinned (OpenSpec.upto agendaOrderSpec)

/-- 'pelotonlaw07.AgendaHandles', WHERE WHAT IT READS IS OF BULK AT MOST 1048576: true; the input reads as it did. -/
def agendaHandlesUptoRow : OpenClaim := { program := "ytclpegneiomakaagreat", sum := "c27c682e37069fb11563b3331f15bbf609eedcde5a705338fdd2ee68c59dfeac", func := "peloton/pelotonlaw07.AgendaHandles", spec := "agendaHandles", inPlace := ["math/bits.Sub64", "math/bits.Add64"], unfollowed := true, recurses := true, apart := false, narrowed := true }
def AgendaHandlesUptoSaid : Prop := agendaHandlesUptoRow.holds Tryz.pinned (OpenSpec.upto agendaHandlesSpec)

/-- 'pelotonlaw07.AgendaBack', WHERE WHAT IT READS IS OF BULK AT MOST 1048576: true; the input reads as it did. -/
def agendaBackUptoRow : OpenClaim := { program := "ytclpegneiomakaagreat", sum := "c27c682e37069fb11563b3331f15bbf609eedcde5a705338fdd2ee68c59dfeac", func := "peloton/pelotonlaw07.AgendaBack", spec := "agendaBack", inPlace := ["math/bits.Sub64", "math/bits.Add64"], unfollowed := true, recurses := true, apart := false, narrowed := true }
def AgendaBackUptoSaid : Prop := agendaBackUptoRow.holds Tryz.pinned (OpenSpec.upto agendaBackSpec)

end Rows
end Go.Proofs.YtclpegneiomakaaGreat
