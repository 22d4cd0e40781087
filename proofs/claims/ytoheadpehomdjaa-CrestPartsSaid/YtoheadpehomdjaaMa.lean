/-
  All pairs of a field's points: what the iterator gives. Conditions: none.
-/
import Derived.Test.YtoheadpehomdjaaSxT
import Derived.Test.YtoheadpehomdjaaW25
namespace Go.Proofs.Ytoheadpehomdjaa
open Go.RowKit
/-- All pairs, in the text's order. -/
def pairsOf : List Pt → List (Pt × Pt)
  | [] => []
  | p :: r => r.map (fun q => (p, q)) ++ pairsOf r
def pairV (x : Pt × Pt) : Array Value := #[ptV x.1, ptV x.2]
abbrev pairsV (l : List Pt) : List (Array Value) := (pairsOf l).map pairV
theorem ra_pt2 {l : List Pt} {i j : Nat} {p : Pt} (h : l[i + j]? = some p) : rowAt (ptsV l) ((0 + i) * 3 + j * 3) [.int .i64 p.id, .int .i64 p.a, .int .i64 p.b] := by
  have := ra_pt h
  rwa [show 0 * 3 + (i + j) * 3 = (0 + i) * 3 + j * 3 by omega] at this

section
abbrev yv (l : Nat) : SV := .pv (.func (.yield l) #[] #[])
abbrev pH (l : List Pt) : List (Nat × Nat × SV) := [(1, 0, .ls 0 l.length), (0, 0, rowP l)]
abbrev pH2 (l : List Pt) (p : Pt) : List (Nat × Nat × SV) := [(1, 0, .ls 0 l.length), (2, 0, .pv (.int .i64 p.id)), (2, 1, .pv (.int .i64 p.a)), (2, 2, .pv (.int .i64 p.b)), (0, 0, rowP l)]
abbrev pH3 (l : List Pt) (p q : Pt) : List (Nat × Nat × SV) := [(1, 0, .ls 0 l.length), (2, 0, .pv (.int .i64 p.id)), (2, 1, .pv (.int .i64 p.a)), (2, 2, .pv (.int .i64 p.b)), (3, 0, .pv (.int .i64 q.id)), (3, 1, .pv (.int .i64 q.a)), (3, 2, .pv (.int .i64 q.b)), (0, 0, rowP l)]
abbrev pT0 (y : Nat) : List (Nat × SV) := [(0, yv y), (1, .pp 1 0)]
abbrev pTo (y : Nat) (l : List Pt) (i : Nat) : List (Nat × SV) := [(0, yv y), (1, .pp 1 0), (8, .ls 0 l.length), (9, .pv (.int .i64 (l.length : Int))), (10, .pv (.int .i64 (i : Int)))]
abbrev pTi (y : Nat) (l : List Pt) (i j : Nat) : List (Nat × SV) := [(0, yv y), (1, .pp 1 0), (4, .pp 2 0), (8, .ls 0 l.length), (9, .pv (.int .i64 (l.length : Int))), (10, .pv (.int .i64 (i : Int))), (19, .lq 0 3 (0 + (i + 1)) (l.length - (i + 1))), (20, .pv (.int .i64 ((l.length - (i + 1) : Nat) : Int))), (21, .pv (.int .i64 (j : Int)))]
abbrev pTp (y : Nat) (l : List Pt) (i : Nat) : List (Nat × SV) := [(0, yv y), (1, .pp 1 0), (3, .pv (.int .i64 (i : Int))), (4, .pp 2 0), (8, .ls 0 l.length), (9, .pv (.int .i64 (l.length : Int))), (10, .pv (.int .i64 (i : Int)))]
end
end Go.Proofs.Ytoheadpehomdjaa
