/-
  All pairs of a field's points: what the iterator gives. Conditions: none.
-/
import Derived.Test.YtpngjeloiifgnaaGreatSxT
import Derived.Test.YtpngjeloiifgnaaGreatW29
namespace Go.Proofs.YtpngjeloiifgnaaGreat
open Go.RowKit
/-- All pairs, in the text's order. -/
def pairsOf : List Pt → List (Pt × Pt)
  | [] => []
  | p :: r => r.map (fun q => (p, q)) ++ pairsOf r
def pairV (x : Pt × Pt) : Array Value := #[ptV x.1, ptV x.2]
abbrev pairsV (l : List Pt) : List (Array Value) := (pairsOf l).map pairV
theorem ra_pt2 {l : List Pt} {i j : Nat} {p : Pt} (h : l[i + j]? = some p) : rowAt (ptsV l) ((0 + i) * 3 + j * 3) [.int .i64 p.id, .int .i64 p.a, .int .i64 p.b] := by
  have := ra_pt h
  rwa [show 0 * 3 + (i + j) * 3 = (0 + i) * 3 + j * 3 by omega] at this

section
noncomputable abbrev pc (p : List Nat) : Code := codeOf Tryz.prog 186 p
theorem pairs_code : pc [] = .seq (pc [0]) (.block 0 (.loop (pc [1, 0, 0]))) := by kernel_rfl
theorem pairs_outer : pc [1, 0, 0] = .seq (pc [1, 0, 0, 0]) (.seq (pc [1, 0, 0, 1, 0]) (.seq (.block 1 (.seq (pc [1, 0, 0, 1, 1, 0, 0, 0]) (.seq (pc [1, 0, 0, 1, 1, 0, 0, 1, 0]) (.block 2 (.loop (pc [1, 0, 0, 1, 1, 0, 0, 1, 1, 0, 0])))))) (pc [1, 0, 0, 1, 1, 1]))) := by kernel_rfl
noncomputable abbrev pi (p : List Nat) : Code := pc ([1, 0, 0, 1, 1, 0, 0, 1, 1, 0, 0] ++ p)
theorem pairs_inner : pc [1, 0, 0, 1, 1, 0, 0, 1, 1, 0, 0] = .seq (pi [0]) (.seq (pi [1, 0]) (.seq (.block 3 (.seq (pi [1, 1, 0, 0, 0]) (.seq (.region 6 (opsOf (pi [1, 1, 0, 0, 1, 0])) false) (pi [1, 1, 0, 0, 1, 1])))) (pi [1, 1, 1]))) := by kernel_rfl
abbrev yv (l : Nat) : SV := .pv (.func (.yield l) #[] #[])
abbrev pH (l : List Pt) : List (Nat × Nat × SV) := [(1, 0, .ls 0 l.length), (0, 0, rowP l)]
abbrev pH2 (l : List Pt) (p : Pt) : List (Nat × Nat × SV) := [(1, 0, .ls 0 l.length), (2, 0, .pv (.int .i64 p.id)), (2, 1, .pv (.int .i64 p.a)), (2, 2, .pv (.int .i64 p.b)), (0, 0, rowP l)]
abbrev pH3 (l : List Pt) (p q : Pt) : List (Nat × Nat × SV) := [(1, 0, .ls 0 l.length), (2, 0, .pv (.int .i64 p.id)), (2, 1, .pv (.int .i64 p.a)), (2, 2, .pv (.int .i64 p.b)), (3, 0, .pv (.int .i64 q.id)), (3, 1, .pv (.int .i64 q.a)), (3, 2, .pv (.int .i64 q.b)), (0, 0, rowP l)]
abbrev pT0 (y : Nat) : List (Nat × SV) := [(0, yv y), (1, .pp 1 0)]
abbrev pTo (y : Nat) (l : List Pt) (i : Nat) : List (Nat × SV) := [(0, yv y), (1, .pp 1 0), (8, .ls 0 l.length), (9, .pv (.int .i64 (l.length : Int))), (10, .pv (.int .i64 (i : Int)))]
abbrev pTi (y : Nat) (l : List Pt) (i j : Nat) : List (Nat × SV) := [(0, yv y), (1, .pp 1 0), (4, .pp 2 0), (8, .ls 0 l.length), (9, .pv (.int .i64 (l.length : Int))), (10, .pv (.int .i64 (i : Int))), (19, .lq 0 3 (0 + (i + 1)) (l.length - (i + 1))), (20, .pv (.int .i64 ((l.length - (i + 1) : Nat) : Int))), (21, .pv (.int .i64 (j : Int)))]
set_option maxRecDepth 100000 in
theorem pa_start (y : Nat) (l : List Pt) : Seg Tryz.prog 2 2 (pc [0]) 32 2 (pT0 y) (pH l) .normal 2 (pTo y l 0) (pH l) :=
  seg_of [] 100 [] (Nat.le_refl _) (by kernel_rfl) (round_of True.intro (by kernel_rfl))
set_option maxRecDepth 100000 in
theorem pa_test (y : Nat) (l : List Pt) (i : Nat) (b : Bool) (h : decide ((i : Int) < (l.length : Int)) = b) : Seg Tryz.prog 2 2 (pc [1, 0, 0, 0]) 32 2 (pTo y l i) (pH l) .normal 2 ((11, .pv (.bool b)) :: pTo y l i) (pH l) :=
  seg_of [] 100 [.t b] (Nat.le_refl _) (by kernel_rfl) (round_of (And.intro h True.intro) (by kernel_rfl))
set_option maxRecDepth 100000 in
theorem pa_yes (y : Nat) (l : List Pt) (i : Nat) : Seg Tryz.prog 2 2 (pc [1, 0, 0, 1, 0]) 32 2 ((11, .pv (.bool true)) :: pTo y l i) (pH l) .normal 2 (pTo y l i) (pH l) :=
  seg_of [] 100 [] (Nat.le_refl _) (by kernel_rfl) (round_of True.intro (by kernel_rfl))
set_option maxRecDepth 100000 in
theorem pa_no (y : Nat) (l : List Pt) (i : Nat) : Seg Tryz.prog 2 2 (pc [1, 0, 0, 1, 0]) 32 2 ((11, .pv (.bool false)) :: pTo y l i) (pH l) (.exit 0) 2 (pTo y l i) (pH l) :=
  seg_of [] 100 [] (Nat.le_refl _) (by kernel_rfl) (round_of True.intro (by kernel_rfl))
abbrev pTp (y : Nat) (l : List Pt) (i : Nat) : List (Nat × SV) := [(0, yv y), (1, .pp 1 0), (3, .pv (.int .i64 (i : Int))), (4, .pp 2 0), (8, .ls 0 l.length), (9, .pv (.int .i64 (l.length : Int))), (10, .pv (.int .i64 (i : Int)))]
set_option maxRecDepth 100000 in
theorem pa_p (y : Nat) (l : List Pt) (i : Nat) (p : Pt) (hin : 0 ≤ (i : Int) ∧ (i : Int) < (l.length : Int)) (hp : l[i]? = some p) : Seg Tryz.prog 2 2 (pc [1, 0, 0, 1, 1, 0, 0, 0]) 32 2 (pTo y l i) (pH l) .normal 3 (pTp y l i) (pH2 l p) :=
  seg_of [] 100 [.r (ptV p)] (by decide) (by kernel_rfl) (round_of (And.intro hin (And.intro (ra_pt hp) True.intro)) (by kernel_rfl))
set_option maxRecDepth 100000 in
theorem pa_cut (y : Nat) (l : List Pt) (i : Nat) (p : Pt) (h1 : Value.int .i64 (IntKind.i64.wrap ((i : Int) + 1)) = .int .i64 ((i + 1 : Nat) : Int)) (h2 : i + 1 ≤ l.length) : Seg Tryz.prog 2 3 (pc [1, 0, 0, 1, 1, 0, 0, 1, 0]) 32 3 (pTp y l i) (pH2 l p) .normal 3 (pTi y l i 0) (pH2 l p) :=
  seg_of [] 100 [.r (.int .i64 ((i + 1 : Nat) : Int)), .k] (by decide) (by kernel_rfl) (round_of (And.intro h1 (And.intro (Int.natCast_nonneg (i + 1)) (And.intro True.intro (And.intro h2 (And.intro (Nat.le_refl l.length) True.intro))))) (by kernel_rfl))
set_option maxRecDepth 100000 in
theorem pa_next (y : Nat) (l : List Pt) (i : Nat) (h : Value.int .i64 (IntKind.i64.wrap ((i : Int) + 1)) = .int .i64 ((i + 1 : Nat) : Int)) : Seg Tryz.prog 2 2 (pc [1, 0, 0, 1, 1, 1]) 32 2 (pTo y l i) (pH l) .normal 2 (pTo y l (i + 1)) (pH l) :=
  seg_of [] 100 [.r (.int .i64 ((i + 1 : Nat) : Int))] (Nat.le_refl _) (by kernel_rfl) (round_of (And.intro h True.intro) (by kernel_rfl))
set_option maxRecDepth 100000 in
theorem pb_test (y : Nat) (l : List Pt) (i j : Nat) (p : Pt) (b : Bool) (h : decide ((j : Int) < ((l.length - (i + 1) : Nat) : Int)) = b) : Seg Tryz.prog 3 3 (pi [0]) 32 3 (pTi y l i j) (pH2 l p) .normal 3 ((22, .pv (.bool b)) :: pTi y l i j) (pH2 l p) :=
  seg_of [] 100 [.t b] (Nat.le_refl _) (by kernel_rfl) (round_of (And.intro h True.intro) (by kernel_rfl))
set_option maxRecDepth 100000 in
theorem pb_yes (y : Nat) (l : List Pt) (i j : Nat) (p : Pt) : Seg Tryz.prog 3 3 (pi [1, 0]) 32 3 ((22, .pv (.bool true)) :: pTi y l i j) (pH2 l p) .normal 3 (pTi y l i j) (pH2 l p) :=
  seg_of [] 100 [] (Nat.le_refl _) (by kernel_rfl) (round_of True.intro (by kernel_rfl))
set_option maxRecDepth 100000 in
theorem pb_no (y : Nat) (l : List Pt) (i j : Nat) (p : Pt) : Seg Tryz.prog 3 3 (pi [1, 0]) 32 3 ((22, .pv (.bool false)) :: pTi y l i j) (pH2 l p) (.exit 2) 3 (pTi y l i j) (pH2 l p) :=
  seg_of [] 100 [] (Nat.le_refl _) (by kernel_rfl) (round_of True.intro (by kernel_rfl))
set_option maxRecDepth 100000 in
theorem pb_q (y : Nat) (l : List Pt) (i j : Nat) (p q : Pt) (hin : 0 ≤ (j : Int) ∧ (j : Int) < ((l.length - (i + 1) : Nat) : Int)) (hq : l[i + 1 + j]? = some q) : Seg Tryz.prog 3 3 (pi [1, 1, 0, 0, 0]) 32 3 (pTi y l i j) (pH2 l p) .normal 4 ((6, .pp 3 0) :: pTi y l i j) (pH3 l p q) :=
  seg_of [] 100 [.r (ptV q)] (by decide) (by kernel_rfl) (round_of (And.intro hin (And.intro (ra_pt2 hq) True.intro)) (by kernel_rfl))
noncomputable abbrev po : Array Oper := opsOf (pi [1, 1, 0, 0, 1, 0])
theorem po_list : po.toList = po.toList.take 3 ++ (po.toList.drop 3).take 1 ++ po.toList.drop 4 := by kernel_rfl
set_option maxRecDepth 100000 in
theorem pb_ahead (y : Nat) (l : List Pt) (i j : Nat) (p q : Pt) : SegL Tryz.prog 3 3 po (po.toList.take 3) 32 4 ((6, .pp 3 0) :: pTi y l i j) (pH3 l p q) 4 ((25, yv y) :: (26, .pv (ptV p)) :: (27, .pv (ptV q)) :: pTi y l i j) (pH2 l p) :=
  segl_of [] 100 [] (by decide) (by kernel_rfl) (round_of True.intro (by kernel_rfl))
set_option maxRecDepth 100000 in
theorem pb_behind (y : Nat) (l : List Pt) (i j : Nat) (p : Pt) : SegL Tryz.prog 3 3 po (po.toList.drop 4) 32 3 ((28, .pv (.bool true)) :: pTi y l i j) (pH2 l p) 3 ((29, .pv (.bool false)) :: pTi y l i j) (pH2 l p) :=
  segl_of [] 100 [] (Nat.le_refl _) (by kernel_rfl) (round_of True.intro (by kernel_rfl))
set_option maxRecDepth 100000 in
theorem pb_on (y : Nat) (l : List Pt) (i j : Nat) (p : Pt) : Seg Tryz.prog 3 3 (pi [1, 1, 0, 0, 1, 1]) 32 3 ((29, .pv (.bool false)) :: pTi y l i j) (pH2 l p) .normal 3 (pTi y l i j) (pH2 l p) :=
  seg_of [] 100 [] (Nat.le_refl _) (by kernel_rfl) (round_of True.intro (by kernel_rfl))
set_option maxRecDepth 100000 in
theorem pb_next (y : Nat) (l : List Pt) (i j : Nat) (p : Pt) (h : Value.int .i64 (IntKind.i64.wrap ((j : Int) + 1)) = .int .i64 ((j + 1 : Nat) : Int)) : Seg Tryz.prog 3 3 (pi [1, 1, 1]) 32 3 (pTi y l i j) (pH2 l p) .normal 3 (pTi y l i (j + 1)) (pH2 l p) :=
  seg_of [] 100 [.r (.int .i64 ((j + 1 : Nat) : Int))] (Nat.le_refl _) (by kernel_rfl) (round_of (And.intro h True.intro) (by kernel_rfl))
end
end Go.Proofs.YtpngjeloiifgnaaGreat
