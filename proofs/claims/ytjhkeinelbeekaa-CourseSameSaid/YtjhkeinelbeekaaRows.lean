/-
  No cell of these rows narrows 'for every input' (looked for: loops, veiled, ifaces, maps, wideKeys, modest, calm, conditions, laid).
  DERIVED. THE GIVEN ROWS OF THIS SEAT. 13 by the template 'for every input the law returns true; each argument reads behind the call as it read before'; 0 by the template 'total and deterministic' (their statements: YtjhkeinelbeekaaTotals.lean).
  GIVEN WITH THE SEED: the statements are not yours to turn. If you find one false, say at which input.
  Laid BY PROGRAM, IN A SANDBOX (cutbox-rows.mjs): the forced cells as the released guide's own fill.sh prints them over the translation a72d77adf3531409… (all of the seat's roots in one cut). By AI agents, Wed Nov 11 2026. No macro, syntax, notation, axiom, sorry.
-/
import Derived.Test.YtjhkeinelbeekaaChecked
import GoSem.Claim
import GoSem.ClaimJoined
import GoSem.ClaimMapViews
import Derived.JoinedTies
import Derived.KernelRfl
namespace Go.Proofs.Ytjhkeinelbeekaa
/- THE CELL 'sum', in the pinned program and in every row, IS THE sha256 OF THE DUMP (.gsa) THAT YtjhkeinelbeekaaProg.lean LOADS. Nothing in Lean hashes anything: it is a label: what it is worth is what the hold of that sum in a sandbox is worth. -/
noncomputable def Try.pinned : Pinned := { name := "ytjhkeinelbeekaa", sum := "a72d77adf35314098d424170008ad1c9de61e931e8bfd5c3e343569894f822ac", checked := Try.checked }
namespace Rows
def none {H : Type} : Left H := { results := [], args := [] }

/-- 'pelotonlaw01.RatioNames': WHATEVER THE INPUT: true; the input reads as it did. -/
def ratioNamesSpec : ChangeSpec := { name := "ratioNames", fn := fun _ => fun
  | [] => { results := [.lit (.bool true)], args := [] }
  | _ => none }
def ratioNamesRow : OpenClaim := { program := "ytjhkeinelbeekaa", sum := "a72d77adf35314098d424170008ad1c9de61e931e8bfd5c3e343569894f822ac", func := "peloton/pelotonlaw01.RatioNames", spec := "ratioNames", inPlace := ["math/bits.Sub64", "math/bits.Add64"], named := ["math/bits.divideError", "math/bits.overflowError"], apart := false }
def RatioNamesSaid : Prop := ratioNamesRow.holds Try.pinned (OpenSpec.ofChange ratioNamesSpec)

/-- ITS FALSE NEIGHBOUR: 'it returns false'. Refute it at one input. -/
def ratioNamesWrong : ChangeSpec := { name := "ratioNames", fn := fun _ => fun
  | [] => { results := [.lit (.bool false)], args := [] }
  | _ => none }
def RatioNamesWrongFalsely : Prop := ratioNamesRow.holds Try.pinned (OpenSpec.ofChange ratioNamesWrong)

/-- 'pelotonlaw01.RatioMakes': WHATEVER THE INPUT: true; the input reads as it did. -/
def ratioMakesSpec : ChangeSpec := { name := "ratioMakes", fn := fun _ => fun
  | [d1, d2, d3] => { results := [.lit (.bool true)], args := [d1, d2, d3] }
  | _ => none }
def ratioMakesRow : OpenClaim := { program := "ytjhkeinelbeekaa", sum := "a72d77adf35314098d424170008ad1c9de61e931e8bfd5c3e343569894f822ac", func := "peloton/pelotonlaw01.RatioMakes", spec := "ratioMakes", apart := false }
def RatioMakesSaid : Prop := ratioMakesRow.holds Try.pinned (OpenSpec.ofChange ratioMakesSpec)

/-- ITS FALSE NEIGHBOUR: 'it returns false'. Refute it at one input. -/
def ratioMakesWrong : ChangeSpec := { name := "ratioMakes", fn := fun _ => fun
  | [d1, d2, d3] => { results := [.lit (.bool false)], args := [d1, d2, d3] }
  | _ => none }
def RatioMakesWrongFalsely : Prop := ratioMakesRow.holds Try.pinned (OpenSpec.ofChange ratioMakesWrong)

/-- 'pelotonlaw01.RatioSums': WHATEVER THE INPUT: true; the input reads as it did. -/
def ratioSumsSpec : ChangeSpec := { name := "ratioSums", fn := fun _ => fun
  | [d1, d2] => { results := [.lit (.bool true)], args := [d1, d2] }
  | _ => none }
def ratioSumsRow : OpenClaim := { program := "ytjhkeinelbeekaa", sum := "a72d77adf35314098d424170008ad1c9de61e931e8bfd5c3e343569894f822ac", func := "peloton/pelotonlaw01.RatioSums", spec := "ratioSums", inPlace := ["math/bits.Sub64", "math/bits.Add64"], named := ["math/bits.divideError", "math/bits.overflowError"], apart := false }
def RatioSumsSaid : Prop := ratioSumsRow.holds Try.pinned (OpenSpec.ofChange ratioSumsSpec)

/-- ITS FALSE NEIGHBOUR: 'it returns false'. Refute it at one input. -/
def ratioSumsWrong : ChangeSpec := { name := "ratioSums", fn := fun _ => fun
  | [d1, d2] => { results := [.lit (.bool false)], args := [d1, d2] }
  | _ => none }
def RatioSumsWrongFalsely : Prop := ratioSumsRow.holds Try.pinned (OpenSpec.ofChange ratioSumsWrong)

/-- 'pelotonlaw01.RatioOrder': WHATEVER THE INPUT: true; the input reads as it did. -/
def ratioOrderSpec : ChangeSpec := { name := "ratioOrder", fn := fun _ => fun
  | [d1, d2, d3] => { results := [.lit (.bool true)], args := [d1, d2, d3] }
  | _ => none }
def ratioOrderRow : OpenClaim := { program := "ytjhkeinelbeekaa", sum := "a72d77adf35314098d424170008ad1c9de61e931e8bfd5c3e343569894f822ac", func := "peloton/pelotonlaw01.RatioOrder", spec := "ratioOrder", inPlace := ["math/bits.Sub64", "math/bits.Add64"], named := ["math/bits.divideError", "math/bits.overflowError"], apart := false }
def RatioOrderSaid : Prop := ratioOrderRow.holds Try.pinned (OpenSpec.ofChange ratioOrderSpec)

/-- ITS FALSE NEIGHBOUR: 'it returns false'. Refute it at one input. -/
def ratioOrderWrong : ChangeSpec := { name := "ratioOrder", fn := fun _ => fun
  | [d1, d2, d3] => { results := [.lit (.bool false)], args := [d1, d2, d3] }
  | _ => none }
def RatioOrderWrongFalsely : Prop := ratioOrderRow.holds Try.pinned (OpenSpec.ofChange ratioOrderWrong)

/-- 'pelotonlaw01.RatioRules': WHATEVER THE INPUT: true; the input reads as it did. -/
def ratioRulesSpec : ChangeSpec := { name := "ratioRules", fn := fun _ => fun
  | [d1, d2, d3] => { results := [.lit (.bool true)], args := [d1, d2, d3] }
  | _ => none }
def ratioRulesRow : OpenClaim := { program := "ytjhkeinelbeekaa", sum := "a72d77adf35314098d424170008ad1c9de61e931e8bfd5c3e343569894f822ac", func := "peloton/pelotonlaw01.RatioRules", spec := "ratioRules", inPlace := ["math/bits.Sub64", "math/bits.Add64"], named := ["math/bits.divideError", "math/bits.overflowError"], apart := false }
def RatioRulesSaid : Prop := ratioRulesRow.holds Try.pinned (OpenSpec.ofChange ratioRulesSpec)

/-- ITS FALSE NEIGHBOUR: 'it returns false'. Refute it at one input. -/
def ratioRulesWrong : ChangeSpec := { name := "ratioRules", fn := fun _ => fun
  | [d1, d2, d3] => { results := [.lit (.bool false)], args := [d1, d2, d3] }
  | _ => none }
def RatioRulesWrongFalsely : Prop := ratioRulesRow.holds Try.pinned (OpenSpec.ofChange ratioRulesWrong)

/-- 'pelotonlaw01.RatioFloor': WHATEVER THE INPUT: true; the input reads as it did. -/
def ratioFloorSpec : ChangeSpec := { name := "ratioFloor", fn := fun _ => fun
  | [d1, d2] => { results := [.lit (.bool true)], args := [d1, d2] }
  | _ => none }
def ratioFloorRow : OpenClaim := { program := "ytjhkeinelbeekaa", sum := "a72d77adf35314098d424170008ad1c9de61e931e8bfd5c3e343569894f822ac", func := "peloton/pelotonlaw01.RatioFloor", spec := "ratioFloor", inPlace := ["math/bits.Sub64", "math/bits.Add64"], named := ["math/bits.divideError", "math/bits.overflowError"], apart := false }
def RatioFloorSaid : Prop := ratioFloorRow.holds Try.pinned (OpenSpec.ofChange ratioFloorSpec)

/-- ITS FALSE NEIGHBOUR: 'it returns false'. Refute it at one input. -/
def ratioFloorWrong : ChangeSpec := { name := "ratioFloor", fn := fun _ => fun
  | [d1, d2] => { results := [.lit (.bool false)], args := [d1, d2] }
  | _ => none }
def RatioFloorWrongFalsely : Prop := ratioFloorRow.holds Try.pinned (OpenSpec.ofChange ratioFloorWrong)

/-- 'pelotonlaw01.RatioSmall': WHATEVER THE INPUT: true; the input reads as it did. -/
def ratioSmallSpec : ChangeSpec := { name := "ratioSmall", fn := fun _ => fun
  | [d1, d2, d3, d4] => { results := [.lit (.bool true)], args := [d1, d2, d3, d4] }
  | _ => none }
def ratioSmallRow : OpenClaim := { program := "ytjhkeinelbeekaa", sum := "a72d77adf35314098d424170008ad1c9de61e931e8bfd5c3e343569894f822ac", func := "peloton/pelotonlaw01.RatioSmall", spec := "ratioSmall", inPlace := ["math/bits.Sub64", "math/bits.Add64"], named := ["math/bits.divideError", "math/bits.overflowError"], apart := false }
def RatioSmallSaid : Prop := ratioSmallRow.holds Try.pinned (OpenSpec.ofChange ratioSmallSpec)

/-- ITS FALSE NEIGHBOUR: 'it returns false'. Refute it at one input. -/
def ratioSmallWrong : ChangeSpec := { name := "ratioSmall", fn := fun _ => fun
  | [d1, d2, d3, d4] => { results := [.lit (.bool false)], args := [d1, d2, d3, d4] }
  | _ => none }
def RatioSmallWrongFalsely : Prop := ratioSmallRow.holds Try.pinned (OpenSpec.ofChange ratioSmallWrong)

/-- 'pelotonlaw02.CourseNames': WHATEVER THE INPUT: true; the input reads as it did. -/
def courseNamesSpec : ChangeSpec := { name := "courseNames", fn := fun _ => fun
  | [] => { results := [.lit (.bool true)], args := [] }
  | _ => none }
def courseNamesRow : OpenClaim := { program := "ytjhkeinelbeekaa", sum := "a72d77adf35314098d424170008ad1c9de61e931e8bfd5c3e343569894f822ac", func := "peloton/pelotonlaw02.CourseNames", spec := "courseNames", inPlace := ["math/bits.Sub64", "math/bits.Add64"], unfollowed := true, recurses := true, apart := false }
def CourseNamesSaid : Prop := courseNamesRow.holds Try.pinned (OpenSpec.ofChange courseNamesSpec)

/-- ITS FALSE NEIGHBOUR: 'it returns false'. Refute it at one input. -/
def courseNamesWrong : ChangeSpec := { name := "courseNames", fn := fun _ => fun
  | [] => { results := [.lit (.bool false)], args := [] }
  | _ => none }
def CourseNamesWrongFalsely : Prop := courseNamesRow.holds Try.pinned (OpenSpec.ofChange courseNamesWrong)

/-- 'pelotonlaw02.CoursePlaces': WHATEVER THE INPUT: true; the input reads as it did. -/
def coursePlacesSpec : ChangeSpec := { name := "coursePlaces", fn := fun _ => fun
  | [d1, d2] => { results := [.lit (.bool true)], args := [d1, d2] }
  | _ => none }
def coursePlacesRow : OpenClaim := { program := "ytjhkeinelbeekaa", sum := "a72d77adf35314098d424170008ad1c9de61e931e8bfd5c3e343569894f822ac", func := "peloton/pelotonlaw02.CoursePlaces", spec := "coursePlaces", apart := false }
def CoursePlacesSaid : Prop := coursePlacesRow.holds Try.pinned (OpenSpec.ofChange coursePlacesSpec)

/-- ITS FALSE NEIGHBOUR: 'it returns false'. Refute it at one input. -/
def coursePlacesWrong : ChangeSpec := { name := "coursePlaces", fn := fun _ => fun
  | [d1, d2] => { results := [.lit (.bool false)], args := [d1, d2] }
  | _ => none }
def CoursePlacesWrongFalsely : Prop := coursePlacesRow.holds Try.pinned (OpenSpec.ofChange coursePlacesWrong)

/-- 'pelotonlaw02.CourseMeets': WHATEVER THE INPUT: true; the input reads as it did. -/
def courseMeetsSpec : ChangeSpec := { name := "courseMeets", fn := fun _ => fun
  | [d1, d2, d3] => { results := [.lit (.bool true)], args := [d1, d2, d3] }
  | _ => none }
def courseMeetsRow : OpenClaim := { program := "ytjhkeinelbeekaa", sum := "a72d77adf35314098d424170008ad1c9de61e931e8bfd5c3e343569894f822ac", func := "peloton/pelotonlaw02.CourseMeets", spec := "courseMeets", inPlace := ["math/bits.Sub64", "math/bits.Add64"], unfollowed := true, recurses := true, apart := false }
def CourseMeetsSaid : Prop := courseMeetsRow.holds Try.pinned (OpenSpec.ofChange courseMeetsSpec)

/-- ITS FALSE NEIGHBOUR: 'it returns false'. Refute it at one input. -/
def courseMeetsWrong : ChangeSpec := { name := "courseMeets", fn := fun _ => fun
  | [d1, d2, d3] => { results := [.lit (.bool false)], args := [d1, d2, d3] }
  | _ => none }
def CourseMeetsWrongFalsely : Prop := courseMeetsRow.holds Try.pinned (OpenSpec.ofChange courseMeetsWrong)

/-- 'pelotonlaw02.CourseOrder': WHATEVER THE INPUT: true; the input reads as it did. -/
def courseOrderSpec : ChangeSpec := { name := "courseOrder", fn := fun _ => fun
  | [d1, d2, d3, d4] => { results := [.lit (.bool true)], args := [d1, d2, d3, d4] }
  | _ => none }
def courseOrderRow : OpenClaim := { program := "ytjhkeinelbeekaa", sum := "a72d77adf35314098d424170008ad1c9de61e931e8bfd5c3e343569894f822ac", func := "peloton/pelotonlaw02.CourseOrder", spec := "courseOrder", inPlace := ["math/bits.Sub64", "math/bits.Add64"], unfollowed := true, recurses := true, apart := false }
def CourseOrderSaid : Prop := courseOrderRow.holds Try.pinned (OpenSpec.ofChange courseOrderSpec)

/-- ITS FALSE NEIGHBOUR: 'it returns false'. Refute it at one input. -/
def courseOrderWrong : ChangeSpec := { name := "courseOrder", fn := fun _ => fun
  | [d1, d2, d3, d4] => { results := [.lit (.bool false)], args := [d1, d2, d3, d4] }
  | _ => none }
def CourseOrderWrongFalsely : Prop := courseOrderRow.holds Try.pinned (OpenSpec.ofChange courseOrderWrong)

/-- 'pelotonlaw02.CourseChanges': WHATEVER THE INPUT: true; the input reads as it did. -/
def courseChangesSpec : ChangeSpec := { name := "courseChanges", fn := fun _ => fun
  | [d1, d2, d3] => { results := [.lit (.bool true)], args := [d1, d2, d3] }
  | _ => none }
def courseChangesRow : OpenClaim := { program := "ytjhkeinelbeekaa", sum := "a72d77adf35314098d424170008ad1c9de61e931e8bfd5c3e343569894f822ac", func := "peloton/pelotonlaw02.CourseChanges", spec := "courseChanges", inPlace := ["math/bits.Sub64", "math/bits.Add64"], unfollowed := true, recurses := true, apart := false }
def CourseChangesSaid : Prop := courseChangesRow.holds Try.pinned (OpenSpec.ofChange courseChangesSpec)

/-- ITS FALSE NEIGHBOUR: 'it returns false'. Refute it at one input. -/
def courseChangesWrong : ChangeSpec := { name := "courseChanges", fn := fun _ => fun
  | [d1, d2, d3] => { results := [.lit (.bool false)], args := [d1, d2, d3] }
  | _ => none }
def CourseChangesWrongFalsely : Prop := courseChangesRow.holds Try.pinned (OpenSpec.ofChange courseChangesWrong)

/-- 'pelotonlaw02.CourseSame': WHATEVER THE INPUT: true; the input reads as it did. -/
def courseSameSpec : ChangeSpec := { name := "courseSame", fn := fun _ => fun
  | [d1, d2, d3] => { results := [.lit (.bool true)], args := [d1, d2, d3] }
  | _ => none }
def courseSameRow : OpenClaim := { program := "ytjhkeinelbeekaa", sum := "a72d77adf35314098d424170008ad1c9de61e931e8bfd5c3e343569894f822ac", func := "peloton/pelotonlaw02.CourseSame", spec := "courseSame", inPlace := ["math/bits.Sub64", "math/bits.Add64"], unfollowed := true, recurses := true, apart := false }
def CourseSameSaid : Prop := courseSameRow.holds Try.pinned (OpenSpec.ofChange courseSameSpec)

/-- ITS FALSE NEIGHBOUR: 'it returns false'. Refute it at one input. -/
def courseSameWrong : ChangeSpec := { name := "courseSame", fn := fun _ => fun
  | [d1, d2, d3] => { results := [.lit (.bool false)], args := [d1, d2, d3] }
  | _ => none }
def CourseSameWrongFalsely : Prop := courseSameRow.holds Try.pinned (OpenSpec.ofChange courseSameWrong)

/- THE SECOND FORM. 'bulk': how many values and letters a reading holds, each counted each time it is reached (what is shared counts as often as it is met; a slice's spare places count too). A statement '..UptoSaid' is the law's where the arguments, and the package variables that the reading takes, are together of bulk at most 1048576: NARROWER than '..Said'. Prove '..Said' where nothing that the law and all that it calls make is longer than what came in: it says more and counts as full. Else prove '..UptoSaid'. A law counts once. -/
mutual
def uptoBulk {H : Type} : DataW H → Nat
  | .lit (.string bytes) => bytes.length + 1
  | .lit _ => 1
  | .nil => 1
  | .ptr d => uptoBulk d + 1
  | .slice elems spare => uptoBulkAll elems + uptoBulkAll spare + 1
  | .agg parts => uptoBulkAll parts + 1
  | .iface _ d => uptoBulk d + 1
  | .map entries => uptoBulkEntries entries + 1
  | .held _ => 1
def uptoBulkAll {H : Type} : List (DataW H) → Nat
  | [] => 0
  | d :: r => uptoBulk d + uptoBulkAll r
def uptoBulkEntries {H : Type} : List (Lit × DataW H) → Nat
  | [] => 0
  | x :: r => uptoBulkEntry x + uptoBulkEntries r
def uptoBulkEntry {H : Type} : Lit × DataW H → Nat
  | (.string bytes, d) => bytes.length + uptoBulk d + 1
  | (_, d) => uptoBulk d + 1
 end
def uptoSmall : (H : Type) → List (DataW H) → Bool := fun _ ds => decide (uptoBulkAll ds ≤ 1048576)
def OpenSpec.upto (s : _root_.Go.ChangeSpec) : _root_.Go.OpenSpec := { _root_.Go.OpenSpec.ofChange s with cond := some uptoSmall }

/-- 'pelotonlaw01.RatioNames', WHERE WHAT IT READS IS OF BULK AT MOST 1048576: true; the input reads as it did. -/
def ratioNamesUptoRow : OpenClaim := { program := "ytjhkeinelbeekaa", sum := "a72d77adf35314098d424170008ad1c9de61e931e8bfd5c3e343569894f822ac", func := "peloton/pelotonlaw01.RatioNames", spec := "ratioNames", inPlace := ["math/bits.Sub64", "math/bits.Add64"], named := ["math/bits.divideError", "math/bits.overflowError"], apart := false, narrowed := true }
def RatioNamesUptoSaid : Prop := ratioNamesUptoRow.holds Try.pinned (OpenSpec.upto ratioNamesSpec)

/-- 'pelotonlaw01.RatioMakes', WHERE WHAT IT READS IS OF BULK AT MOST 1048576: true; the input reads as it did. -/
def ratioMakesUptoRow : OpenClaim := { program := "ytjhkeinelbeekaa", sum := "a72d77adf35314098d424170008ad1c9de61e931e8bfd5c3e343569894f822ac", func := "peloton/pelotonlaw01.RatioMakes", spec := "ratioMakes", apart := false, narrowed := true }
def RatioMakesUptoSaid : Prop := ratioMakesUptoRow.holds Try.pinned (OpenSpec.upto ratioMakesSpec)

/-- 'pelotonlaw01.RatioSums', WHERE WHAT IT READS IS OF BULK AT MOST 1048576: true; the input reads as it did. -/
def ratioSumsUptoRow : OpenClaim := { program := "ytjhkeinelbeekaa", sum := "a72d77adf35314098d424170008ad1c9de61e931e8bfd5c3e343569894f822ac", func := "peloton/pelotonlaw01.RatioSums", spec := "ratioSums", inPlace := ["math/bits.Sub64", "math/bits.Add64"], named := ["math/bits.divideError", "math/bits.overflowError"], apart := false, narrowed := true }
def RatioSumsUptoSaid : Prop := ratioSumsUptoRow.holds Try.pinned (OpenSpec.upto ratioSumsSpec)

/-- 'pelotonlaw01.RatioOrder', WHERE WHAT IT READS IS OF BULK AT MOST 1048576: true; the input reads as it did. -/
def ratioOrderUptoRow : OpenClaim := { program := "ytjhkeinelbeekaa", sum := "a72d77adf35314098d424170008ad1c9de61e931e8bfd5c3e343569894f822ac", func := "peloton/pelotonlaw01.RatioOrder", spec := "ratioOrder", inPlace := ["math/bits.Sub64", "math/bits.Add64"], named := ["math/bits.divideError", "math/bits.overflowError"], apart := false, narrowed := true }
def RatioOrderUptoSaid : Prop := ratioOrderUptoRow.holds Try.pinned (OpenSpec.upto ratioOrderSpec)

/-- 'pelotonlaw01.RatioRules', WHERE WHAT IT READS IS OF BULK AT MOST 1048576: true; the input reads as it did. -/
def ratioRulesUptoRow : OpenClaim := { program := "ytjhkeinelbeekaa", sum := "a72d77adf35314098d424170008ad1c9de61e931e8bfd5c3e343569894f822ac", func := "peloton/pelotonlaw01.RatioRules", spec := "ratioRules", inPlace := ["math/bits.Sub64", "math/bits.Add64"], named := ["math/bits.divideError", "math/bits.overflowError"], apart := false, narrowed := true }
def RatioRulesUptoSaid : Prop := ratioRulesUptoRow.holds Try.pinned (OpenSpec.upto ratioRulesSpec)

/-- 'pelotonlaw01.RatioFloor', WHERE WHAT IT READS IS OF BULK AT MOST 1048576: true; the input reads as it did. -/
def ratioFloorUptoRow : OpenClaim := { program := "ytjhkeinelbeekaa", sum := "a72d77adf35314098d424170008ad1c9de61e931e8bfd5c3e343569894f822ac", func := "peloton/pelotonlaw01.RatioFloor", spec := "ratioFloor", inPlace := ["math/bits.Sub64", "math/bits.Add64"], named := ["math/bits.divideError", "math/bits.overflowError"], apart := false, narrowed := true }
def RatioFloorUptoSaid : Prop := ratioFloorUptoRow.holds Try.pinned (OpenSpec.upto ratioFloorSpec)

/-- 'pelotonlaw01.RatioSmall', WHERE WHAT IT READS IS OF BULK AT MOST 1048576: true; the input reads as it did. -/
def ratioSmallUptoRow : OpenClaim := { program := "ytjhkeinelbeekaa", sum := "a72d77adf35314098d424170008ad1c9de61e931e8bfd5c3e343569894f822ac", func := "peloton/pelotonlaw01.RatioSmall", spec := "ratioSmall", inPlace := ["math/bits.Sub64", "math/bits.Add64"], named := ["math/bits.divideError", "math/bits.overflowError"], apart := false, narrowed := true }
def RatioSmallUptoSaid : Prop := ratioSmallUptoRow.holds Try.pinned (OpenSpec.upto ratioSmallSpec)

/-- 'pelotonlaw02.CourseNames', WHERE WHAT IT READS IS OF BULK AT MOST 1048576: true; the input reads as it did. -/
def courseNamesUptoRow : OpenClaim := { program := "ytjhkeinelbeekaa", sum := "a72d77adf35314098d424170008ad1c9de61e931e8bfd5c3e343569894f822ac", func := "peloton/pelotonlaw02.CourseNames", spec := "courseNames", inPlace := ["math/bits.Sub64", "math/bits.Add64"], unfollowed := true, recurses := true, apart := false, narrowed := true }
def CourseNamesUptoSaid : Prop := courseNamesUptoRow.holds Try.pinned (OpenSpec.upto courseNamesSpec)

/-- 'pelotonlaw02.CoursePlaces', WHERE WHAT IT READS IS OF BULK AT MOST 1048576: true; the input reads as it did. -/
def coursePlacesUptoRow : OpenClaim := { program := "ytjhkeinelbeekaa", sum := "a72d77adf35314098d424170008ad1c9de61e931e8bfd5c3e343569894f822ac", func := "peloton/pelotonlaw02.CoursePlaces", spec := "coursePlaces", apart := false, narrowed := true }
def CoursePlacesUptoSaid : Prop := coursePlacesUptoRow.holds Try.pinned (OpenSpec.upto coursePlacesSpec)

/-- 'pelotonlaw02.CourseMeets', WHERE WHAT IT READS IS OF BULK AT MOST 1048576: true; the input reads as it did. -/
def courseMeetsUptoRow : OpenClaim := { program := "ytjhkeinelbeekaa", sum := "a72d77adf35314098d424170008ad1c9de61e931e8bfd5c3e343569894f822ac", func := "peloton/pelotonlaw02.CourseMeets", spec := "courseMeets", inPlace := ["math/bits.Sub64", "math/bits.Add64"], unfollowed := true, recurses := true, apart := false, narrowed := true }
def CourseMeetsUptoSaid : Prop := courseMeetsUptoRow.holds Try.pinned (OpenSpec.upto courseMeetsSpec)

/-- 'pelotonlaw02.CourseOrder', WHERE WHAT IT READS IS OF BULK AT MOST 1048576: true; the input reads as it did. -/
def courseOrderUptoRow : OpenClaim := { program := "ytjhkeinelbeekaa", sum := "a72d77adf35314098d424170008ad1c9de61e931e8bfd5c3e343569894f822ac", func := "peloton/pelotonlaw02.CourseOrder", spec := "courseOrder", inPlace := ["math/bits.Sub64", "math/bits.Add64"], unfollowed := true, recurses := true, apart := false, narrowed := true }
def CourseOrderUptoSaid : Prop := courseOrderUptoRow.holds Try.pinned (OpenSpec.upto courseOrderSpec)

/-- 'pelotonlaw02.CourseChanges', WHERE WHAT IT READS IS OF BULK AT MOST 1048576: true; the input reads as it did. -/
def courseChangesUptoRow : OpenClaim := { program := "ytjhkeinelbeekaa", sum := "a72d77adf35314098d424170008ad1c9de61e931e8bfd5c3e343569894f822ac", func := "peloton/pelotonlaw02.CourseChanges", spec := "courseChanges", inPlace := ["math/bits.Sub64", "math/bits.Add64"], unfollowed := true, recurses := true, apart := false, narrowed := true }
def CourseChangesUptoSaid : Prop := courseChangesUptoRow.holds Try.pinned (OpenSpec.upto courseChangesSpec)

/-- 'pelotonlaw02.CourseSame', WHERE WHAT IT READS IS OF BULK AT MOST 1048576: true; the input reads as it did. -/
def courseSameUptoRow : OpenClaim := { program := "ytjhkeinelbeekaa", sum := "a72d77adf35314098d424170008ad1c9de61e931e8bfd5c3e343569894f822ac", func := "peloton/pelotonlaw02.CourseSame", spec := "courseSame", inPlace := ["math/bits.Sub64", "math/bits.Add64"], unfollowed := true, recurses := true, apart := false, narrowed := true }
def CourseSameUptoSaid : Prop := courseSameUptoRow.holds Try.pinned (OpenSpec.upto courseSameSpec)

end Rows
end Go.Proofs.Ytjhkeinelbeekaa
