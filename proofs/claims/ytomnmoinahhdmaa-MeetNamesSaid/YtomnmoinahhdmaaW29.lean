/-
  Joined: Fb, Ma, Pm. Conditions: none.
-/
import Derived.Test.YtomnmoinahhdmaaW28
import Derived.Test.YtomnmoinahhdmaaSxT
import Derived.Test.YtomnmoinahhdmaaCr
namespace Go.Proofs.Ytomnmoinahhdmaa
open Go.RowKit
set_option maxRecDepth 100000 in
theorem kc0_next {l : List Pt} {k : Nat} {p : Pt} (hk : l[k]? = some p) (hin : 0 ≤ (k : Int) ∧ (k : Int) < (l.length : Int)) (hlt : decide ((k : Int) < (l.length : Int)) = true) (hc : Pure Try.prog 130 #[pointV p.id p.a p.b] (.int .i64 (0))) (hs : Value.int .i64 (IntKind.i64.wrap ((k : Int) + 1)) = .int .i64 (((k + 1 : Nat) : Int))) {e : Exit} {tm2 : List (Nat × SV)} {hp2 : List (Nat × Nat × SV)}
    (r : RunsL Try.prog 1 1 (loopOf Try.prog 97 0) 44 2 ([(1, .pp 1 0), (3, .pv (.int .i64 ((k + 1 : Nat) : Int)))]) ([(1, 0, .ls 0 l.length), (0, 0, rowP l)]) e tm2 hp2) : RunsL Try.prog 1 1 (loopOf Try.prog 97 0) 44 2 ([(1, .pp 1 0), (3, .pv (.int .i64 (k : Int)))]) ([(1, 0, .ls 0 l.length), (0, 0, rowP l)]) e tm2 hp2 :=
  RunsL.next [] 300 [.t true, .r (ptV p), .r (.int .i64 (0)), .k, .r (.int .i64 (((k + 1 : Nat) : Int)))]
    (round_of (And.intro hlt (And.intro hin (And.intro (ra_pt hk) (And.intro hc (And.intro hs True.intro))))) (by kernel_rfl)) r

set_option maxRecDepth 100000 in
theorem kc0_bad {l : List Pt} {k : Nat} {p : Pt} (hk : l[k]? = some p) (hin : 0 ≤ (k : Int) ∧ (k : Int) < (l.length : Int)) (hlt : decide ((k : Int) < (l.length : Int)) = true) (hc : Pure Try.prog 130 #[pointV p.id p.a p.b] (.int .i64 (8))) : RunsL Try.prog 1 1 (loopOf Try.prog 97 0) 44 2 ([(1, .pp 1 0), (3, .pv (.int .i64 (k : Int)))]) ([(1, 0, .ls 0 l.length), (0, 0, rowP l)]) (.ret) ([(2, .pv (.int .i64 8))]) ([]) :=
  RunsL.stop [] 300 [.t true, .r (ptV p), .r (.int .i64 (8)), .k] (fun h => by cases h)
    (round_of (And.intro hlt (And.intro hin (And.intro (ra_pt hk) (And.intro hc True.intro)))) (by kernel_rfl))

set_option maxRecDepth 100000 in
theorem kc0_end {l : List Pt} {k : Nat} (hge : decide ((k : Int) < (l.length : Int)) = false) : RunsL Try.prog 1 1 (loopOf Try.prog 97 0) 44 2 ([(1, .pp 1 0), (3, .pv (.int .i64 (k : Int)))]) ([(1, 0, .ls 0 l.length), (0, 0, rowP l)]) (.exit 0) ([(1, .pp 1 0)]) ([(1, 0, .ls 0 l.length), (0, 0, rowP l)]) :=
  RunsL.stop [] 300 [.t false] (fun h => by cases h)
    (round_of (And.intro hge True.intro) (by kernel_rfl))

set_option maxRecDepth 100000 in
theorem kc1_next {l : List Pt} {k : Nat} {p q : Pt} (hq : l[k]? = some q) (hk : l[k + 1]? = some p) (hi0 : 0 ≤ (k : Int) ∧ (k : Int) < (l.length : Int)) (hi1 : 0 ≤ ((k + 1 : Nat) : Int) ∧ ((k + 1 : Nat) : Int) < (l.length : Int)) (hlt : decide (((k + 1 : Nat) : Int) < (l.length : Int)) = true) (hm : Value.int .i64 (IntKind.i64.wrap (((k + 1 : Nat) : Int) - 1)) = .int .i64 ((k : Int))) (hg : decide (q.id ≥ p.id) = false) (hs : Value.int .i64 (IntKind.i64.wrap (((k + 1 : Nat) : Int) + 1)) = .int .i64 (((k + 1 + 1 : Nat) : Int))) {e : Exit} {tm2 : List (Nat × SV)} {hp2 : List (Nat × Nat × SV)}
    (r : RunsL Try.prog 1 1 (loopOf Try.prog 97 1) 44 2 ([(1, .pp 1 0), (4, .pv (.int .i64 ((k + 1 + 1 : Nat) : Int)))]) ([(1, 0, .ls 0 l.length), (0, 0, rowP l)]) e tm2 hp2) : RunsL Try.prog 1 1 (loopOf Try.prog 97 1) 44 2 ([(1, .pp 1 0), (4, .pv (.int .i64 ((k + 1 : Nat) : Int)))]) ([(1, 0, .ls 0 l.length), (0, 0, rowP l)]) e tm2 hp2 :=
  RunsL.next [] 300 [.t true, .r (.int .i64 ((k : Int))), .r (Value.int .i64 q.id), .r (Value.int .i64 p.id), .t false, .r (.int .i64 (((k + 1 + 1 : Nat) : Int)))]
    (round_of (And.intro hlt (And.intro hm (And.intro hi0 (And.intro (ra_id hq) (And.intro hi1 (And.intro (ra_id hk) (And.intro hg (And.intro hs True.intro)))))))) (by kernel_rfl)) r

set_option maxRecDepth 100000 in
theorem kc1_bad {l : List Pt} {k : Nat} {p q : Pt} (hq : l[k]? = some q) (hk : l[k + 1]? = some p) (hi0 : 0 ≤ (k : Int) ∧ (k : Int) < (l.length : Int)) (hi1 : 0 ≤ ((k + 1 : Nat) : Int) ∧ ((k + 1 : Nat) : Int) < (l.length : Int)) (hlt : decide (((k + 1 : Nat) : Int) < (l.length : Int)) = true) (hm : Value.int .i64 (IntKind.i64.wrap (((k + 1 : Nat) : Int) - 1)) = .int .i64 ((k : Int))) (hg : decide (q.id ≥ p.id) = true) : RunsL Try.prog 1 1 (loopOf Try.prog 97 1) 44 2 ([(1, .pp 1 0), (4, .pv (.int .i64 ((k + 1 : Nat) : Int)))]) ([(1, 0, .ls 0 l.length), (0, 0, rowP l)]) (.ret) ([(2, .pv (.int .i64 32))]) ([]) :=
  RunsL.stop [] 300 [.t true, .r (.int .i64 ((k : Int))), .r (Value.int .i64 q.id), .r (Value.int .i64 p.id), .t true] (fun h => by cases h)
    (round_of (And.intro hlt (And.intro hm (And.intro hi0 (And.intro (ra_id hq) (And.intro hi1 (And.intro (ra_id hk) (And.intro hg True.intro))))))) (by kernel_rfl))

set_option maxRecDepth 100000 in
theorem kc1_end {l : List Pt} {k : Nat} (hge : decide (((k : Nat) : Int) < (l.length : Int)) = false) : RunsL Try.prog 1 1 (loopOf Try.prog 97 1) 44 2 ([(1, .pp 1 0), (4, .pv (.int .i64 ((k : Nat) : Int)))]) ([(1, 0, .ls 0 l.length), (0, 0, rowP l)]) (.exit 2) ([]) ([]) :=
  RunsL.stop [] 300 [.t false] (fun h => by cases h)
    (round_of (And.intro hge True.intro) (by kernel_rfl))

set_option maxRecDepth 100000 in
theorem kc_many {l : List Pt} (h64 : decide ((l.length : Int) > 64) = true) :
    FnL Try.prog 97 1 [fldS 0 l] [(0, 0, rowP l)] (.pv (.int .i64 4)) 0 [] :=
  fnl_run 300 [] [.t true]
     True.intro (And.intro h64 True.intro) (by kernel_rfl)

set_option maxRecDepth 100000 in
theorem kc_bad {l : List Pt} (h64 : decide ((l.length : Int) > 64) = false) (r0 : RunsL Try.prog 1 1 (loopOf Try.prog 97 0) 44 2 ([(1, .pp 1 0), (3, .pv (.int .i64 (((0 : Nat) : Int) : Int)))]) ([(1, 0, .ls 0 l.length), (0, 0, rowP l)]) (.ret) ([(2, .pv (.int .i64 8))]) ([])) :
    FnL Try.prog 97 1 [fldS 0 l] [(0, 0, rowP l)] (.pv (.int .i64 8)) 0 [] :=
  fnl_run 300 [] [.t false, .l (.ret) ([(1, .pp 1 0), (3, .pv (.int .i64 (((0 : Nat) : Int) : Int)))]) ([(1, 0, .ls 0 l.length), (0, 0, rowP l)]) ([(2, .pv (.int .i64 8))]) ([])]
     True.intro (And.intro h64 (And.intro (reflT (renN []) ([(1, .pp 1 0), (3, .pv (.int .i64 (((0 : Nat) : Int) : Int)))])) (And.intro (reflH (renN []) ([(1, 0, .ls 0 l.length), (0, 0, rowP l)])) (And.intro r0 True.intro)))) (by kernel_rfl)

set_option maxRecDepth 100000 in
theorem kc_ord {l : List Pt} (h64 : decide ((l.length : Int) > 64) = false) (r0 : RunsL Try.prog 1 1 (loopOf Try.prog 97 0) 44 2 ([(1, .pp 1 0), (3, .pv (.int .i64 (((0 : Nat) : Int) : Int)))]) ([(1, 0, .ls 0 l.length), (0, 0, rowP l)]) (.exit 0) ([(1, .pp 1 0)]) ([(1, 0, .ls 0 l.length), (0, 0, rowP l)])) (r1 : RunsL Try.prog 1 1 (loopOf Try.prog 97 1) 44 2 ([(1, .pp 1 0), (4, .pv (.int .i64 (((0 + 1 : Nat) : Int) : Int)))]) ([(1, 0, .ls 0 l.length), (0, 0, rowP l)]) (.ret) ([(2, .pv (.int .i64 32))]) ([])) :
    FnL Try.prog 97 1 [fldS 0 l] [(0, 0, rowP l)] (.pv (.int .i64 32)) 0 [] :=
  fnl_run 300 [] [.t false, .l (.exit 0) ([(1, .pp 1 0), (3, .pv (.int .i64 (((0 : Nat) : Int) : Int)))]) ([(1, 0, .ls 0 l.length), (0, 0, rowP l)]) ([(1, .pp 1 0)]) ([(1, 0, .ls 0 l.length), (0, 0, rowP l)]), .l (.ret) ([(1, .pp 1 0), (4, .pv (.int .i64 (((0 + 1 : Nat) : Int) : Int)))]) ([(1, 0, .ls 0 l.length), (0, 0, rowP l)]) ([(2, .pv (.int .i64 32))]) ([])]
     True.intro (And.intro h64 (And.intro (reflT (renN []) ([(1, .pp 1 0), (3, .pv (.int .i64 (((0 : Nat) : Int) : Int)))])) (And.intro (reflH (renN []) ([(1, 0, .ls 0 l.length), (0, 0, rowP l)])) (And.intro r0 (And.intro (reflT (renN []) ([(1, .pp 1 0), (4, .pv (.int .i64 (((0 + 1 : Nat) : Int) : Int)))])) (And.intro (reflH (renN []) ([(1, 0, .ls 0 l.length), (0, 0, rowP l)])) (And.intro r1 True.intro))))))) (by kernel_rfl)

set_option maxRecDepth 100000 in
theorem kc_ok {l : List Pt} (h64 : decide ((l.length : Int) > 64) = false) (r0 : RunsL Try.prog 1 1 (loopOf Try.prog 97 0) 44 2 ([(1, .pp 1 0), (3, .pv (.int .i64 (((0 : Nat) : Int) : Int)))]) ([(1, 0, .ls 0 l.length), (0, 0, rowP l)]) (.exit 0) ([(1, .pp 1 0)]) ([(1, 0, .ls 0 l.length), (0, 0, rowP l)])) (r1 : RunsL Try.prog 1 1 (loopOf Try.prog 97 1) 44 2 ([(1, .pp 1 0), (4, .pv (.int .i64 (((0 + 1 : Nat) : Int) : Int)))]) ([(1, 0, .ls 0 l.length), (0, 0, rowP l)]) (.exit 2) ([]) ([])) :
    FnL Try.prog 97 1 [fldS 0 l] [(0, 0, rowP l)] (.pv (.int .i64 0)) 0 [] :=
  fnl_run 300 [] [.t false, .l (.exit 0) ([(1, .pp 1 0), (3, .pv (.int .i64 (((0 : Nat) : Int) : Int)))]) ([(1, 0, .ls 0 l.length), (0, 0, rowP l)]) ([(1, .pp 1 0)]) ([(1, 0, .ls 0 l.length), (0, 0, rowP l)]), .l (.exit 2) ([(1, .pp 1 0), (4, .pv (.int .i64 (((0 + 1 : Nat) : Int) : Int)))]) ([(1, 0, .ls 0 l.length), (0, 0, rowP l)]) ([]) ([])]
     True.intro (And.intro h64 (And.intro (reflT (renN []) ([(1, .pp 1 0), (3, .pv (.int .i64 (((0 : Nat) : Int) : Int)))])) (And.intro (reflH (renN []) ([(1, 0, .ls 0 l.length), (0, 0, rowP l)])) (And.intro r0 (And.intro (reflT (renN []) ([(1, .pp 1 0), (4, .pv (.int .i64 (((0 + 1 : Nat) : Int) : Int)))])) (And.intro (reflH (renN []) ([(1, 0, .ls 0 l.length), (0, 0, rowP l)])) (And.intro r1 True.intro))))))) (by kernel_rfl)

end Go.Proofs.Ytomnmoinahhdmaa

namespace Go.Proofs.Ytomnmoinahhdmaa
open Go.RowKit
/-- All pairs, in the text's order. -/
def pairsOf : List Pt → List (Pt × Pt)
  | [] => []
  | p :: r => r.map (fun q => (p, q)) ++ pairsOf r
def pairV (x : Pt × Pt) : Array Value := #[ptV x.1, ptV x.2]
abbrev pairsV (l : List Pt) : List (Array Value) := (pairsOf l).map pairV
theorem ra_pt2 {l : List Pt} {i j : Nat} {p : Pt} (h : l[i + j]? = some p) : rowAt (ptsV l) ((0 + i) * 3 + j * 3) [.int .i64 p.id, .int .i64 p.a, .int .i64 p.b] := by
  have := ra_pt h
  rwa [show 0 * 3 + (i + j) * 3 = (0 + i) * 3 + j * 3 by omega] at this

section
noncomputable abbrev pc (p : List Nat) : Code := codeOf Try.prog 93 p
theorem pairs_code : pc [] = .seq (pc [0]) (.block 0 (.loop (pc [1, 0, 0]))) := by kernel_rfl
theorem pairs_outer : pc [1, 0, 0] = .seq (pc [1, 0, 0, 0]) (.seq (pc [1, 0, 0, 1, 0]) (.seq (.block 1 (.seq (pc [1, 0, 0, 1, 1, 0, 0, 0]) (.seq (pc [1, 0, 0, 1, 1, 0, 0, 1, 0]) (.block 2 (.loop (pc [1, 0, 0, 1, 1, 0, 0, 1, 1, 0, 0])))))) (pc [1, 0, 0, 1, 1, 1]))) := by kernel_rfl
noncomputable abbrev pi (p : List Nat) : Code := pc ([1, 0, 0, 1, 1, 0, 0, 1, 1, 0, 0] ++ p)
theorem pairs_inner : pc [1, 0, 0, 1, 1, 0, 0, 1, 1, 0, 0] = .seq (pi [0]) (.seq (pi [1, 0]) (.seq (.block 3 (.seq (pi [1, 1, 0, 0, 0]) (.seq (.region 6 (opsOf (pi [1, 1, 0, 0, 1, 0])) false) (pi [1, 1, 0, 0, 1, 1])))) (pi [1, 1, 1]))) := by kernel_rfl
abbrev yv (l : Nat) : SV := .pv (.func (.yield l) #[] #[])
abbrev pH (l : List Pt) : List (Nat × Nat × SV) := [(1, 0, .ls 0 l.length), (0, 0, rowP l)]
abbrev pH2 (l : List Pt) (p : Pt) : List (Nat × Nat × SV) := [(1, 0, .ls 0 l.length), (2, 0, .pv (.int .i64 p.id)), (2, 1, .pv (.int .i64 p.a)), (2, 2, .pv (.int .i64 p.b)), (0, 0, rowP l)]
abbrev pH3 (l : List Pt) (p q : Pt) : List (Nat × Nat × SV) := [(1, 0, .ls 0 l.length), (2, 0, .pv (.int .i64 p.id)), (2, 1, .pv (.int .i64 p.a)), (2, 2, .pv (.int .i64 p.b)), (3, 0, .pv (.int .i64 q.id)), (3, 1, .pv (.int .i64 q.a)), (3, 2, .pv (.int .i64 q.b)), (0, 0, rowP l)]
abbrev pT0 (y : Nat) : List (Nat × SV) := [(0, yv y), (1, .pp 1 0)]
abbrev pTo (y : Nat) (l : List Pt) (i : Nat) : List (Nat × SV) := [(0, yv y), (1, .pp 1 0), (8, .ls 0 l.length), (9, .pv (.int .i64 (l.length : Int))), (10, .pv (.int .i64 (i : Int)))]
abbrev pTi (y : Nat) (l : List Pt) (i j : Nat) : List (Nat × SV) := [(0, yv y), (1, .pp 1 0), (4, .pp 2 0), (8, .ls 0 l.length), (9, .pv (.int .i64 (l.length : Int))), (10, .pv (.int .i64 (i : Int))), (19, .lq 0 3 (0 + (i + 1)) (l.length - (i + 1))), (20, .pv (.int .i64 ((l.length - (i + 1) : Nat) : Int))), (21, .pv (.int .i64 (j : Int)))]
set_option maxRecDepth 100000 in
theorem pa_start (y : Nat) (l : List Pt) : Seg Try.prog 2 2 (pc [0]) 32 2 (pT0 y) (pH l) .normal 2 (pTo y l 0) (pH l) :=
  seg_of [] 100 [] (Nat.le_refl _) (by kernel_rfl) (round_of True.intro (by kernel_rfl))
set_option maxRecDepth 100000 in
theorem pa_test (y : Nat) (l : List Pt) (i : Nat) (b : Bool) (h : decide ((i : Int) < (l.length : Int)) = b) : Seg Try.prog 2 2 (pc [1, 0, 0, 0]) 32 2 (pTo y l i) (pH l) .normal 2 ((11, .pv (.bool b)) :: pTo y l i) (pH l) :=
  seg_of [] 100 [.t b] (Nat.le_refl _) (by kernel_rfl) (round_of (And.intro h True.intro) (by kernel_rfl))
set_option maxRecDepth 100000 in
theorem pa_yes (y : Nat) (l : List Pt) (i : Nat) : Seg Try.prog 2 2 (pc [1, 0, 0, 1, 0]) 32 2 ((11, .pv (.bool true)) :: pTo y l i) (pH l) .normal 2 (pTo y l i) (pH l) :=
  seg_of [] 100 [] (Nat.le_refl _) (by kernel_rfl) (round_of True.intro (by kernel_rfl))
set_option maxRecDepth 100000 in
theorem pa_no (y : Nat) (l : List Pt) (i : Nat) : Seg Try.prog 2 2 (pc [1, 0, 0, 1, 0]) 32 2 ((11, .pv (.bool false)) :: pTo y l i) (pH l) (.exit 0) 2 (pTo y l i) (pH l) :=
  seg_of [] 100 [] (Nat.le_refl _) (by kernel_rfl) (round_of True.intro (by kernel_rfl))
abbrev pTp (y : Nat) (l : List Pt) (i : Nat) : List (Nat × SV) := [(0, yv y), (1, .pp 1 0), (3, .pv (.int .i64 (i : Int))), (4, .pp 2 0), (8, .ls 0 l.length), (9, .pv (.int .i64 (l.length : Int))), (10, .pv (.int .i64 (i : Int)))]
set_option maxRecDepth 100000 in
theorem pa_p (y : Nat) (l : List Pt) (i : Nat) (p : Pt) (hin : 0 ≤ (i : Int) ∧ (i : Int) < (l.length : Int)) (hp : l[i]? = some p) : Seg Try.prog 2 2 (pc [1, 0, 0, 1, 1, 0, 0, 0]) 32 2 (pTo y l i) (pH l) .normal 3 (pTp y l i) (pH2 l p) :=
  seg_of [] 100 [.r (ptV p)] (by decide) (by kernel_rfl) (round_of (And.intro hin (And.intro (ra_pt hp) True.intro)) (by kernel_rfl))
set_option maxRecDepth 100000 in
theorem pa_cut (y : Nat) (l : List Pt) (i : Nat) (p : Pt) (h1 : Value.int .i64 (IntKind.i64.wrap ((i : Int) + 1)) = .int .i64 ((i + 1 : Nat) : Int)) (h2 : i + 1 ≤ l.length) : Seg Try.prog 2 3 (pc [1, 0, 0, 1, 1, 0, 0, 1, 0]) 32 3 (pTp y l i) (pH2 l p) .normal 3 (pTi y l i 0) (pH2 l p) :=
  seg_of [] 100 [.r (.int .i64 ((i + 1 : Nat) : Int)), .k] (by decide) (by kernel_rfl) (round_of (And.intro h1 (And.intro (Int.natCast_nonneg (i + 1)) (And.intro True.intro (And.intro h2 (And.intro (Nat.le_refl l.length) True.intro))))) (by kernel_rfl))
set_option maxRecDepth 100000 in
theorem pa_next (y : Nat) (l : List Pt) (i : Nat) (h : Value.int .i64 (IntKind.i64.wrap ((i : Int) + 1)) = .int .i64 ((i + 1 : Nat) : Int)) : Seg Try.prog 2 2 (pc [1, 0, 0, 1, 1, 1]) 32 2 (pTo y l i) (pH l) .normal 2 (pTo y l (i + 1)) (pH l) :=
  seg_of [] 100 [.r (.int .i64 ((i + 1 : Nat) : Int))] (Nat.le_refl _) (by kernel_rfl) (round_of (And.intro h True.intro) (by kernel_rfl))
set_option maxRecDepth 100000 in
theorem pb_test (y : Nat) (l : List Pt) (i j : Nat) (p : Pt) (b : Bool) (h : decide ((j : Int) < ((l.length - (i + 1) : Nat) : Int)) = b) : Seg Try.prog 3 3 (pi [0]) 32 3 (pTi y l i j) (pH2 l p) .normal 3 ((22, .pv (.bool b)) :: pTi y l i j) (pH2 l p) :=
  seg_of [] 100 [.t b] (Nat.le_refl _) (by kernel_rfl) (round_of (And.intro h True.intro) (by kernel_rfl))
set_option maxRecDepth 100000 in
theorem pb_yes (y : Nat) (l : List Pt) (i j : Nat) (p : Pt) : Seg Try.prog 3 3 (pi [1, 0]) 32 3 ((22, .pv (.bool true)) :: pTi y l i j) (pH2 l p) .normal 3 (pTi y l i j) (pH2 l p) :=
  seg_of [] 100 [] (Nat.le_refl _) (by kernel_rfl) (round_of True.intro (by kernel_rfl))
set_option maxRecDepth 100000 in
theorem pb_no (y : Nat) (l : List Pt) (i j : Nat) (p : Pt) : Seg Try.prog 3 3 (pi [1, 0]) 32 3 ((22, .pv (.bool false)) :: pTi y l i j) (pH2 l p) (.exit 2) 3 (pTi y l i j) (pH2 l p) :=
  seg_of [] 100 [] (Nat.le_refl _) (by kernel_rfl) (round_of True.intro (by kernel_rfl))
set_option maxRecDepth 100000 in
theorem pb_q (y : Nat) (l : List Pt) (i j : Nat) (p q : Pt) (hin : 0 ≤ (j : Int) ∧ (j : Int) < ((l.length - (i + 1) : Nat) : Int)) (hq : l[i + 1 + j]? = some q) : Seg Try.prog 3 3 (pi [1, 1, 0, 0, 0]) 32 3 (pTi y l i j) (pH2 l p) .normal 4 ((6, .pp 3 0) :: pTi y l i j) (pH3 l p q) :=
  seg_of [] 100 [.r (ptV q)] (by decide) (by kernel_rfl) (round_of (And.intro hin (And.intro (ra_pt2 hq) True.intro)) (by kernel_rfl))
noncomputable abbrev po : Array Oper := opsOf (pi [1, 1, 0, 0, 1, 0])
theorem po_list : po.toList = po.toList.take 3 ++ (po.toList.drop 3).take 1 ++ po.toList.drop 4 := by kernel_rfl
set_option maxRecDepth 100000 in
theorem pb_ahead (y : Nat) (l : List Pt) (i j : Nat) (p q : Pt) : SegL Try.prog 3 3 po (po.toList.take 3) 32 4 ((6, .pp 3 0) :: pTi y l i j) (pH3 l p q) 4 ((25, yv y) :: (26, .pv (ptV p)) :: (27, .pv (ptV q)) :: pTi y l i j) (pH2 l p) :=
  segl_of [] 100 [] (by decide) (by kernel_rfl) (round_of True.intro (by kernel_rfl))
set_option maxRecDepth 100000 in
theorem pb_behind (y : Nat) (l : List Pt) (i j : Nat) (p : Pt) : SegL Try.prog 3 3 po (po.toList.drop 4) 32 3 ((28, .pv (.bool true)) :: pTi y l i j) (pH2 l p) 3 ((29, .pv (.bool false)) :: pTi y l i j) (pH2 l p) :=
  segl_of [] 100 [] (Nat.le_refl _) (by kernel_rfl) (round_of True.intro (by kernel_rfl))
set_option maxRecDepth 100000 in
theorem pb_on (y : Nat) (l : List Pt) (i j : Nat) (p : Pt) : Seg Try.prog 3 3 (pi [1, 1, 0, 0, 1, 1]) 32 3 ((29, .pv (.bool false)) :: pTi y l i j) (pH2 l p) .normal 3 (pTi y l i j) (pH2 l p) :=
  seg_of [] 100 [] (Nat.le_refl _) (by kernel_rfl) (round_of True.intro (by kernel_rfl))
set_option maxRecDepth 100000 in
theorem pb_next (y : Nat) (l : List Pt) (i j : Nat) (p : Pt) (h : Value.int .i64 (IntKind.i64.wrap ((j : Int) + 1)) = .int .i64 ((j + 1 : Nat) : Int)) : Seg Try.prog 3 3 (pi [1, 1, 1]) 32 3 (pTi y l i j) (pH2 l p) .normal 3 (pTi y l i (j + 1)) (pH2 l p) :=
  seg_of [] 100 [.r (.int .i64 ((j + 1 : Nat) : Int))] (Nat.le_refl _) (by kernel_rfl) (round_of (And.intro h True.intro) (by kernel_rfl))
end
end Go.Proofs.Ytomnmoinahhdmaa

namespace Go.Proofs.Ytomnmoinahhdmaa
open Go.RowKit
theorem and_low {n : Int} (h : I64 n) : Value.int .i64 (bits .and .i64 n 4294967295) = .int .i64 (n % 4294967296) := by
  unfold I64 at h
  have h1 : (BitVec.ofInt 64 n).toNat = (n % 18446744073709551616).toNat := by rw [BitVec.toNat_ofInt]; rfl
  have h2 : (BitVec.ofInt 64 4294967295).toNat = 2 ^ 32 - 1 := by decide
  have e : bits .and .i64 n 4294967295 = IntKind.i64.wrap ((BitVec.ofInt 64 n &&& BitVec.ofInt 64 4294967295).toNat : Int) := rfl
  rw [e, BitVec.toNat_and, h1, h2, Nat.and_two_pow_sub_one_eq_mod, wrap_i64_in (by omega) (by omega)]
  congr 1
  omega
theorem fdiv32 (n : Int) : n.fdiv (2 ^ (min (32 : Int).toNat IntKind.i64.bits)) = n / 4294967296 := by
  rw [show ((2 : Int) ^ (min (32 : Int).toNat IntKind.i64.bits)) = 4294967296 by decide]
  exact Int.fdiv_eq_ediv_of_nonneg _ (by decide)
theorem split_ok {n : Int} (h : I64 n) : Pure Try.prog 105 #[.int .i64 n] (.agg #[.int .i64 (n / 4294967296), .int .i64 (n % 4294967296)]) :=
  split_path (by decide) (by rw [fdiv32]) (and_low h)
theorem wrapI {x : Int} (h0 : -9223372036854775808 ≤ x) (h1 : x ≤ 9223372036854775807) : Value.int .i64 (IntKind.i64.wrap x) = .int .i64 x := by rw [wrap_i64_in h0 h1]
theorem mulB {a x A X : Int} (h1 : -A ≤ a) (h2 : a ≤ A) (h3 : -X ≤ x) (h4 : x ≤ X) (hA : 0 ≤ A) (hX : 0 ≤ X) : -(A * X) ≤ a * x ∧ a * x ≤ A * X := mul_bd h2 h1 h4 h3 hA hX
/-- The number of which h has the parts. -/
theorem joined_any {s0 s1 S : Int} (h0 : -9223372036854775 ≤ s0) (h1 : s0 ≤ 9223372036854775) (h2 : -9223372036854775 ≤ s1) (h3 : s1 ≤ 9223372036854775) (hS : S = s0 * 4294967296 + s1) :
    (I64 S ∧ Pure Try.prog 106 #[.agg #[.int .i64 s0, .int .i64 s1]] (.tuple #[.int .i64 S, .bool true])) ∨ (¬ I64 S ∧ Pure Try.prog 106 #[.agg #[.int .i64 s0, .int .i64 s1]] (.tuple #[.int .i64 0, .bool false])) := by
  have v1 : Value.int .i64 (s1.fdiv (2 ^ (min (32 : Int).toNat IntKind.i64.bits))) = .int .i64 (s1 / 4294967296) := by rw [fdiv32]
  have v2 := wrapI (x := s0 + s1 / 4294967296) (by omega) (by omega)
  by_cases a : s0 + s1 / 4294967296 < -2147483648
  · exact Or.inr ⟨by unfold I64; omega, joined_lo (by decide) v1 v2 (dt a)⟩
  · by_cases b : s0 + s1 / 4294967296 > 2147483647
    · exact Or.inr ⟨by unfold I64; omega, joined_hi (by decide) v1 v2 (df a) (dt b)⟩
    · refine Or.inl ⟨by unfold I64; omega, joined_ok (by decide) v1 v2 (df a) (df b) (hh := (s0 + s1 / 4294967296) * 4294967296) ?_ (and_low (by unfold I64; omega)) ?_⟩
      · rw [show ((2 : Int) ^ (min (32 : Int).toNat IntKind.i64.bits)) = 4294967296 by decide]
        exact wrapI (by omega) (by omega)
      · rw [show (s0 + s1 / 4294967296) * 4294967296 + s1 % 4294967296 = S by omega]
        exact wrapI (by omega) (by omega)

theorem At_res {pi pa pb n d : Int} (hn : I64 n) (hd : I64 d) (hp : okP pi pa pb = true) (ht : okB n d = true) :
    ∃ N D E, IsRes (pa * d + pb * n) d N D E ∧ Pure Try.prog 26 #[pointV pi pa pb, ratioV n d] (.tuple #[ratioV N D, .int .i64 E]) := by
  have hp' := okP_iff.1 hp
  have d1 := okB_den ht
  have hd' := hd
  have hn' := hn
  unfold I64 at hd' hn'
  -- the rate
  obtain ⟨rn, rd, E, hr, hm⟩ := Make_res (a := pb) (b := d) (by unfold I64; omega) hd (by omega)
  obtain ⟨rfl, k1, i1, i2, e1⟩ := hr.fits (by omega) (by omega) (by omega) (by omega)
  have rd1 := okB_den k1
  have i2' := i2
  have i1' := i1
  unfold I64 at i1' i2'
  -- the rate's numerator is no greater than B
  have hdvd : rd.natAbs ∣ d.natAbs := by
    obtain ⟨_, _, g⟩ := okB_iff.1 k1
    refine Nat.Coprime.dvd_of_dvd_mul_left (show Nat.Coprime rd.natAbs rn.natAbs by rw [Nat.coprime_comm]; exact g) ⟨pb.natAbs, ?_⟩
    rw [← Int.natAbs_mul, e1, Int.natAbs_mul, Nat.mul_comm]
  obtain ⟨c, hc⟩ := hdvd
  have c0 : 0 < c := by
    rcases Nat.eq_zero_or_pos c with e | e
    · rw [e, Nat.mul_zero] at hc; omega
    · exact e
  have hdc : d = rd * (c : Int) := by
    have : d = ((rd.natAbs * c : Nat) : Int) := by omega
    rw [this, Int.natCast_mul]; congr 1; omega
  have hbc : pb = rn * (c : Int) := by
    refine Int.eq_of_mul_eq_mul_right (show rd ≠ 0 by omega) ?_
    rw [← e1, hdc, Int.mul_right_comm, Int.mul_assoc]
  have hrn : -1048576 ≤ rn ∧ rn ≤ 1048576 := by
    have : rn.natAbs * c = pb.natAbs := by rw [hbc, Int.natAbs_mul, Int.natAbs_natCast]
    have := Nat.le_mul_of_pos_right rn.natAbs c0
    omega
  -- the sum in two parts
  have a0 := mulB (a := pa) (x := rd / 4294967296) (A := 1048576) (X := 2147483648) (by omega) (by omega) (by omega) (by omega) (by decide) (by decide)
  have b0 := mulB (a := rn) (x := n / 4294967296) (A := 1048576) (X := 2147483648) (by omega) (by omega) (by omega) (by omega) (by decide) (by decide)
  have a1 := mulB (a := pa) (x := rd % 4294967296) (A := 1048576) (X := 4294967296) (by omega) (by omega) (by omega) (by omega) (by decide) (by decide)
  have b1 := mulB (a := rn) (x := n % 4294967296) (A := 1048576) (X := 4294967296) (by omega) (by omega) (by omega) (by omega) (by decide) (by decide)
  have hsum := sum2_path (a := pa) (b := rn) (x0 := rd / 4294967296) (x1 := rd % 4294967296) (y0 := n / 4294967296) (y1 := n % 4294967296) (wrapI (by omega) (by omega)) (wrapI (by omega) (by omega)) (wrapI (by omega) (by omega)) (wrapI (by omega) (by omega)) (wrapI (by omega) (by omega)) (wrapI (by omega) (by omega))
  obtain ⟨S, hS⟩ : ∃ S, S = pa * rd + rn * n := ⟨_, rfl⟩
  have hS2 : S = (pa * (rd / 4294967296) + rn * (n / 4294967296)) * 4294967296 + (pa * (rd % 4294967296) + rn * (n % 4294967296)) := by
    have e2 : rd = rd / 4294967296 * 4294967296 + rd % 4294967296 := by omega
    have e3 : n = n / 4294967296 * 4294967296 + n % 4294967296 := by omega
    rw [hS]
    conv => lhs; rw [e2, e3]
    rw [Int.mul_add, Int.mul_add, Int.add_mul, ← Int.mul_assoc, ← Int.mul_assoc]
    omega
  have heq : S * d = (pa * d + pb * n) * rd := by
    rw [hS, Int.add_mul, Int.add_mul, Int.mul_right_comm pa rd d, Int.mul_right_comm rn n d, e1, Int.mul_right_comm pb rd n]
  have hcd : Nat.gcd S.natAbs rd.natAbs = 1 := by
    obtain ⟨_, _, g1⟩ := okB_iff.1 k1
    obtain ⟨_, _, g2⟩ := okB_iff.1 ht
    have g3 : Nat.Coprime n.natAbs rd.natAbs := Nat.Coprime.coprime_dvd_right ⟨c, hc⟩ g2
    have g4 : Nat.Coprime (rn * n).natAbs rd.natAbs := by rw [Int.natAbs_mul]; exact Nat.Coprime.mul_left g1 g3
    have g5 : Int.gcd S rd = 1 := by
      rw [hS, Int.add_comm, Int.gcd_comm, Int.gcd_add_mul_right_right, Int.gcd_comm]
      exact g4
    exact g5
  have hat := fun {N D E : Int} (h : Pure Try.prog 69 #[pointV pi pa pb, ratioV n d] (.tuple #[ratioV N D, .int .i64 E])) => at_ok (Check02_ok hp) (Check_ok hn hd ht) h
  rcases joined_any (s0 := pa * (rd / 4294967296) + rn * (n / 4294967296)) (s1 := pa * (rd % 4294967296) + rn * (n % 4294967296)) (S := S) (by omega) (by omega) (by omega) (by omega) hS2 with ⟨j1, j2⟩ | ⟨j1, j2⟩
  · obtain ⟨N, D, E, h1, h2⟩ := Make_res (a := S) (b := rd) j1 i2 (by omega)
    exact ⟨N, D, E, h1.congr (by omega) (by omega) heq, hat (place_t hm (split_ok i2) (split_ok hn) hsum j2 h2)⟩
  · have hres := isRes_of (p := pa * d + pb * n) (q := d) (T := S) (U := rd) (by omega) (by omega) hcd heq
    have hf : (fitB S.natAbs && fitB rd.natAbs) = false := by
      unfold I64 at j1
      simp [fitB]; omega
    rw [hf] at hres
    exact ⟨_, _, _, hres, hat (place_f hm (split_ok i2) (split_ok hn) hsum j2)⟩
end Go.Proofs.Ytomnmoinahhdmaa
