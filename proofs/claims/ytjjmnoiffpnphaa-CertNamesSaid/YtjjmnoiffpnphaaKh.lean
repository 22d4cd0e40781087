/-
  Of and Holds of package cert, path by path. Conditions: none.
-/
import Derived.Test.YtjjmnoiffpnphaaW31
namespace Go.Proofs.Ytjjmnoiffpnphaa
open Go.RowKit
set_option maxRecDepth 100000 in
theorem nu_skip {l : List Pt} {vs : List Value} {k m : Nat} {p : Pt} {n : Int} (hk : l[k]? = some p) (hin : 0 ≤ (k : Int) ∧ (k : Int) < (l.length : Int)) (hlt : decide ((k : Int) < (l.length : Int)) = true) (hl : (p.a == n) = false) (hh : (p.b == n) = false) (hs : Value.int .i64 (IntKind.i64.wrap ((k : Int) + 1)) = .int .i64 (((k + 1 : Nat) : Int))) {e : Exit} {tm2 : List (Nat × SV)} {hp2 : List (Nat × Nat × SV)}
    (r : RunsL Try.prog 2 2 (loopOf Try.prog 44 0) 26 4 ([(1, .pc 45 [.pp 1 0]), (5, .ls 3 (m)), (9, .ls 0 l.length), (10, .pv (.int .i64 (l.length : Int))), (11, .pv (.int .i64 ((k + 1 : Nat) : Int)))]) ([(0, 0, rowC l), (1, 0, .pv (.int .i64 n)), (3, 0, .row 3 1 (m) (vs))]) e tm2 hp2) : RunsL Try.prog 2 2 (loopOf Try.prog 44 0) 26 4 ([(1, .pc 45 [.pp 1 0]), (5, .ls 3 (m)), (9, .ls 0 l.length), (10, .pv (.int .i64 (l.length : Int))), (11, .pv (.int .i64 (k : Int)))]) ([(0, 0, rowC l), (1, 0, .pv (.int .i64 n)), (3, 0, .row 3 1 (m) (vs))]) e tm2 hp2 :=
  RunsL.next [] 300 [.t true, .r (ptV p), .k, .t false, .t false, .r (.int .i64 (((k + 1 : Nat) : Int)))]
    (round_of (And.intro hlt (And.intro hin (And.intro (ra_pt hk) (And.intro hl (And.intro hh (And.intro hs True.intro)))))) (by kernel_rfl)) r

set_option maxRecDepth 100000 in
theorem nu_lo {l : List Pt} {vs : List Value} {k m : Nat} {p : Pt} {n : Int} (hk : l[k]? = some p) (hin : 0 ≤ (k : Int) ∧ (k : Int) < (l.length : Int)) (hlt : decide ((k : Int) < (l.length : Int)) = true) (hl : (p.a == n) = true) (hm : m + 1 ≤ 1000000) (hs : Value.int .i64 (IntKind.i64.wrap ((k : Int) + 1)) = .int .i64 (((k + 1 : Nat) : Int))) {e : Exit} {tm2 : List (Nat × SV)} {hp2 : List (Nat × Nat × SV)}
    (r : RunsL Try.prog 2 2 (loopOf Try.prog 44 0) 26 4 ([(1, .pc 45 [.pp 1 0]), (5, .ls 3 (m + 1)), (9, .ls 0 l.length), (10, .pv (.int .i64 (l.length : Int))), (11, .pv (.int .i64 ((k + 1 : Nat) : Int)))]) ([(0, 0, rowC l), (1, 0, .pv (.int .i64 n)), (3, 0, .row 3 1 (m + 1) (vs ++ [.int .i64 p.id]))]) e tm2 hp2) : RunsL Try.prog 2 2 (loopOf Try.prog 44 0) 26 4 ([(1, .pc 45 [.pp 1 0]), (5, .ls 3 (m)), (9, .ls 0 l.length), (10, .pv (.int .i64 (l.length : Int))), (11, .pv (.int .i64 (k : Int)))]) ([(0, 0, rowC l), (1, 0, .pv (.int .i64 n)), (3, 0, .row 3 1 (m) (vs))]) e tm2 hp2 :=
  RunsL.next [(3, 7)] 300 [.t true, .r (ptV p), .k, .t true, .r (.int .i64 (((k + 1 : Nat) : Int)))]
    (round_of (And.intro hlt (And.intro hin (And.intro (ra_pt hk) (And.intro hl (And.intro hm (And.intro hs True.intro)))))) (by kernel_rfl)) r

set_option maxRecDepth 100000 in
theorem nu_hi {l : List Pt} {vs : List Value} {k m : Nat} {p : Pt} {n : Int} (hk : l[k]? = some p) (hin : 0 ≤ (k : Int) ∧ (k : Int) < (l.length : Int)) (hlt : decide ((k : Int) < (l.length : Int)) = true) (hl : (p.a == n) = false) (hh : (p.b == n) = true) (hm : m + 1 ≤ 1000000) (hs : Value.int .i64 (IntKind.i64.wrap ((k : Int) + 1)) = .int .i64 (((k + 1 : Nat) : Int))) {e : Exit} {tm2 : List (Nat × SV)} {hp2 : List (Nat × Nat × SV)}
    (r : RunsL Try.prog 2 2 (loopOf Try.prog 44 0) 26 4 ([(1, .pc 45 [.pp 1 0]), (5, .ls 3 (m + 1)), (9, .ls 0 l.length), (10, .pv (.int .i64 (l.length : Int))), (11, .pv (.int .i64 ((k + 1 : Nat) : Int)))]) ([(0, 0, rowC l), (1, 0, .pv (.int .i64 n)), (3, 0, .row 3 1 (m + 1) (vs ++ [.int .i64 p.id]))]) e tm2 hp2) : RunsL Try.prog 2 2 (loopOf Try.prog 44 0) 26 4 ([(1, .pc 45 [.pp 1 0]), (5, .ls 3 (m)), (9, .ls 0 l.length), (10, .pv (.int .i64 (l.length : Int))), (11, .pv (.int .i64 (k : Int)))]) ([(0, 0, rowC l), (1, 0, .pv (.int .i64 n)), (3, 0, .row 3 1 (m) (vs))]) e tm2 hp2 :=
  RunsL.next [(3, 7)] 300 [.t true, .r (ptV p), .k, .t false, .t true, .r (.int .i64 (((k + 1 : Nat) : Int)))]
    (round_of (And.intro hlt (And.intro hin (And.intro (ra_pt hk) (And.intro hl (And.intro hh (And.intro hm (And.intro hs True.intro))))))) (by kernel_rfl)) r

set_option maxRecDepth 100000 in
theorem nu_end {l : List Pt} {vs : List Value} {k m : Nat} {n : Int} (hge : decide ((k : Int) < (l.length : Int)) = false) : RunsL Try.prog 2 2 (loopOf Try.prog 44 0) 26 4 ([(1, .pc 45 [.pp 1 0]), (5, .ls 3 (m)), (9, .ls 0 l.length), (10, .pv (.int .i64 (l.length : Int))), (11, .pv (.int .i64 (k : Int)))]) ([(0, 0, rowC l), (1, 0, .pv (.int .i64 n)), (3, 0, .row 3 1 (m) (vs))]) (.exit 0) ([(5, .ls 3 m)]) ([(0, 0, rowC l), (1, 0, .pv (.int .i64 n)), (3, 0, .row 3 1 (m) (vs))]) :=
  RunsL.stop [] 300 [.t false] (fun h => by cases h)
    (round_of (And.intro hge True.intro) (by kernel_rfl))

set_option maxRecDepth 100000 in
theorem nu_path {l : List Pt} {vs : List Value} {m : Nat} {x n : Int} (r0 : RunsL Try.prog 2 2 (loopOf Try.prog 44 0) 26 4 ([(1, .pc 45 [.pp 1 0]), (5, .ls 3 (0)), (9, .ls 0 l.length), (10, .pv (.int .i64 (l.length : Int))), (11, .pv (.int .i64 ((0 : Nat) : Int)))]) ([(0, 0, rowC l), (1, 0, .pv (.int .i64 n)), (3, 0, .row 3 1 (0) ([]))]) (.exit 0) ([(5, .ls 3 m)]) ([(0, 0, rowC l), (1, 0, .pv (.int .i64 n)), (3, 0, .row 3 1 (m) (vs))])) :
    FnL Try.prog 44 2 [crtS 0 x l, .pc 45 [.pp 1 0]] [(0, 0, rowC l), (1, 0, .pv (.int .i64 n))] (.ls 2 m) 1 [(2, 0, .row 3 1 m vs)] :=
  fnl_run 300 [(2, 3)] [.ln true 5 0 3 1, .l (.exit 0) ([(1, .pc 45 [.pp 1 0]), (5, .ls 3 (0)), (9, .ls 0 l.length), (10, .pv (.int .i64 (l.length : Int))), (11, .pv (.int .i64 ((0 : Nat) : Int)))]) ([(0, 0, rowC l), (1, 0, .pv (.int .i64 n)), (3, 0, .row 3 1 (0) ([]))]) ([(5, .ls 3 m)]) ([(0, 0, rowC l), (1, 0, .pv (.int .i64 n)), (3, 0, .row 3 1 (m) (vs))])]
     (reflH (renN [(2, 3)]) [(2, 0, .row 3 1 m vs)]) (And.intro (reflT (renN []) ([(1, .pc 45 [.pp 1 0]), (5, .ls 3 (0)), (9, .ls 0 l.length), (10, .pv (.int .i64 (l.length : Int))), (11, .pv (.int .i64 ((0 : Nat) : Int)))])) (And.intro (reflH (renN []) ([(0, 0, rowC l), (1, 0, .pv (.int .i64 n)), (3, 0, .row 3 1 (0) ([]))])) (And.intro r0 True.intro))) (by kernel_rfl)

set_option maxRecDepth 100000 in
theorem po8_bad {l : List Pt} {x n : Int} (hc : FnL Try.prog 16 1 [crtS 0 x l] [(0, 0, rowC l)] (.pv (.int .i64 (8))) 0 []) :
    FnL Try.prog 13 1 [crtS 0 x l, .pv (.int .i64 (n))] [(0, 0, rowC l)] (.pv (.tuple #[.slice none 0 0, .int .i64 8])) 0 [] :=
  fnl_run 300 [] [.f [0] [crtS 0 x l] [(0, 0, rowC l)] (.pv (.int .i64 (8))) 0 [], .k]
     True.intro (And.intro hc (And.intro (Eq.refl (List.map (SV.ren (renU [0] 3)) [crtS 0 x l])) (And.intro (reflH (renU [0] 3) [(0, 0, rowC l)]) True.intro))) (by kernel_rfl)

set_option maxRecDepth 100000 in
theorem po8_ok {l : List Pt} {vs : List Value} {m : Nat} {x n : Int} (hc : FnL Try.prog 16 1 [crtS 0 x l] [(0, 0, rowC l)] (.pv (.int .i64 (0))) 0 []) (hn : FnL Try.prog 44 2 [crtS 0 x l, .pc 45 [.pp 1 0]] [(0, 0, rowC l), (1, 0, .pv (.int .i64 n))] (.ls 2 m) 1 [(2, 0, .row 3 1 m vs)]) :
    FnL Try.prog 13 1 [crtS 0 x l, .pv (.int .i64 (n))] [(0, 0, rowC l)] (.tu [.one (.ls 1 m), .one (.pv (.int .i64 0))]) 1 [(1, 0, .row 3 1 m vs)] :=
  fnl_run 300 [(1, 3)] [.f [0] [crtS 0 x l] [(0, 0, rowC l)] (.pv (.int .i64 (0))) 0 [], .k, .f [0,2] [crtS 0 x l, .pc 45 [.pp 1 0]] [(0, 0, rowC l), (1, 0, .pv (.int .i64 n))] (.ls 2 m) 1 [(2, 0, .row 3 1 m vs)]]
     (reflH (renN [(1, 3)]) [(1, 0, .row 3 1 m vs)]) (And.intro hc (And.intro (Eq.refl (List.map (SV.ren (renU [0] 3)) [crtS 0 x l])) (And.intro (reflH (renU [0] 3) [(0, 0, rowC l)]) (And.intro hn (And.intro (Eq.refl (List.map (SV.ren (renU [0,2] 3)) [crtS 0 x l, .pc 45 [.pp 1 0]])) (And.intro (reflH (renU [0,2] 3) [(0, 0, rowC l), (1, 0, .pv (.int .i64 n))]) True.intro)))))) (by kernel_rfl)

set_option maxRecDepth 100000 in
theorem by_next {l s : List Pt} {k : Nat} {p : Pt} (hk : l[k]? = some p) (hin : 0 ≤ (k : Int) ∧ (k : Int) < (l.length : Int)) (hlt : decide ((k : Int) < (l.length : Int)) = true) (hP : PutIs Try.prog 90 (byV s) (.int .i64 p.id) (ptV p) (byV (s ++ [p]))) (hs : Value.int .i64 (IntKind.i64.wrap ((k : Int) + 1)) = .int .i64 (((k + 1 : Nat) : Int))) {e : Exit} {tm2 : List (Nat × SV)} {hp2 : List (Nat × Nat × SV)}
    (r : RunsL Try.prog 1 1 (loopOf Try.prog 48 0) 23 3 ([(3, .mp 2), (11, .ls 0 l.length), (12, .pv (.int .i64 (l.length : Int))), (13, .pv (.int .i64 ((k + 1 : Nat) : Int)))]) ([(2, 0, .mrow (byV (s ++ [p]))), (0, 0, rowP l)]) e tm2 hp2) : RunsL Try.prog 1 1 (loopOf Try.prog 48 0) 23 3 ([(3, .mp 2), (11, .ls 0 l.length), (12, .pv (.int .i64 (l.length : Int))), (13, .pv (.int .i64 (k : Int)))]) ([(2, 0, .mrow (byV (s))), (0, 0, rowP l)]) e tm2 hp2 :=
  RunsL.next [] 300 [.t true, .r (ptV p), .w (byV (s ++ [p])), .r (.int .i64 (((k + 1 : Nat) : Int)))]
    (round_of (And.intro hlt (And.intro hin (And.intro (ra_pt hk) (And.intro hP (And.intro hs True.intro))))) (by kernel_rfl)) r

set_option maxRecDepth 100000 in
theorem by_end {l s : List Pt} {k : Nat} (hge : decide ((k : Int) < (l.length : Int)) = false) : RunsL Try.prog 1 1 (loopOf Try.prog 48 0) 23 3 ([(3, .mp 2), (11, .ls 0 l.length), (12, .pv (.int .i64 (l.length : Int))), (13, .pv (.int .i64 (k : Int)))]) ([(2, 0, .mrow (byV (s))), (0, 0, rowP l)]) (.exit 0) ([(3, .mp 2)]) ([(2, 0, .mrow (byV (s))), (0, 0, rowP l)]) :=
  RunsL.stop [] 300 [.t false] (fun h => by cases h)
    (round_of (And.intro hge True.intro) (by kernel_rfl))

set_option maxRecDepth 100000 in
theorem by_path {l s : List Pt} (r0 : RunsL Try.prog 1 1 (loopOf Try.prog 48 0) 23 3 ([(3, .mp 2), (11, .ls 0 l.length), (12, .pv (.int .i64 (l.length : Int))), (13, .pv (.int .i64 ((0 : Nat) : Int)))]) ([(2, 0, .mrow (byV ([]))), (0, 0, rowP l)]) (.exit 0) ([(3, .mp 2)]) ([(2, 0, .mrow (byV (s))), (0, 0, rowP l)])) :
    FnL Try.prog 48 1 [fldS 0 l] [(0, 0, rowP l)] (.mp 1) 1 [(1, 0, .mrow (byV s))] :=
  fnl_run 300 [(1, 2)] [.l (.exit 0) ([(3, .mp 2), (11, .ls 0 l.length), (12, .pv (.int .i64 (l.length : Int))), (13, .pv (.int .i64 ((0 : Nat) : Int)))]) ([(2, 0, .mrow (byV ([]))), (0, 0, rowP l)]) ([(3, .mp 2)]) ([(2, 0, .mrow (byV (s))), (0, 0, rowP l)])]
     (reflH (renN [(1, 2)]) [(1, 0, .mrow (byV s))]) (And.intro (reflT (renN []) ([(3, .mp 2), (11, .ls 0 l.length), (12, .pv (.int .i64 (l.length : Int))), (13, .pv (.int .i64 ((0 : Nat) : Int)))])) (And.intro (reflH (renN []) ([(2, 0, .mrow (byV ([]))), (0, 0, rowP l)])) (And.intro r0 True.intro))) (by kernel_rfl)

set_option maxRecDepth 100000 in
theorem mi_next {l s : List Pt} {k : Nat} {p q g : Pt} (hk : l[k]? = some p) (hin : 0 ≤ (k : Int) ∧ (k : Int) < (l.length : Int)) (hlt : decide ((k : Int) < (l.length : Int)) = true) (hA : LookIs Try.prog 90 (byV s) (.int .i64 p.a) true (.tuple #[ptV q, .bool true])) (hB : LookIs Try.prog 90 (byV s) (.int .i64 p.b) true (.tuple #[ptV g, .bool true])) (hs : Value.int .i64 (IntKind.i64.wrap ((k : Int) + 1)) = .int .i64 (((k + 1 : Nat) : Int))) {e : Exit} {tm2 : List (Nat × SV)} {hp2 : List (Nat × Nat × SV)}
    (r : RunsL Try.prog 3 3 (loopOf Try.prog 85 0) 19 3 ([(0, .ls 0 l.length), (1, .pc 72 [.pp 2 0]), (7, .pv (.int .i64 (l.length : Int))), (8, .pv (.int .i64 ((k + 1 : Nat) : Int)))]) ([(0, 0, rowC l), (1, 0, .mrow (byV s)), (2, 0, .mp 1)]) e tm2 hp2) : RunsL Try.prog 3 3 (loopOf Try.prog 85 0) 19 3 ([(0, .ls 0 l.length), (1, .pc 72 [.pp 2 0]), (7, .pv (.int .i64 (l.length : Int))), (8, .pv (.int .i64 (k : Int)))]) ([(0, 0, rowC l), (1, 0, .mrow (byV s)), (2, 0, .mp 1)]) e tm2 hp2 :=
  RunsL.next [] 300 [.t true, .r (ptV p), .k, .r (.tuple #[ptV q, .bool true]), .r (.tuple #[ptV g, .bool true]), .k, .k, .r (.int .i64 (((k + 1 : Nat) : Int)))]
    (round_of (And.intro hlt (And.intro hin (And.intro (ra_pt hk) (And.intro hA (And.intro hB (And.intro hs True.intro)))))) (by kernel_rfl)) r

set_option maxRecDepth 100000 in
theorem mi_nn {l s : List Pt} {k : Nat} {p : Pt} (hk : l[k]? = some p) (hin : 0 ≤ (k : Int) ∧ (k : Int) < (l.length : Int)) (hlt : decide ((k : Int) < (l.length : Int)) = true) (hA : LookIs Try.prog 90 (byV s) (.int .i64 p.a) true (.tuple #[pointV 0 0 0, .bool false])) (hB : LookIs Try.prog 90 (byV s) (.int .i64 p.b) true (.tuple #[pointV 0 0 0, .bool false])) : RunsL Try.prog 3 3 (loopOf Try.prog 85 0) 19 3 ([(0, .ls 0 l.length), (1, .pc 72 [.pp 2 0]), (7, .pv (.int .i64 (l.length : Int))), (8, .pv (.int .i64 (k : Int)))]) ([(0, 0, rowC l), (1, 0, .mrow (byV s)), (2, 0, .mp 1)]) (.ret) ([(4, .pv (.int .i64 (k : Int)))]) ([]) :=
  RunsL.stop [] 300 [.t true, .r (ptV p), .k, .r (.tuple #[pointV 0 0 0, .bool false]), .r (.tuple #[pointV 0 0 0, .bool false]), .k] (fun h => by cases h)
    (round_of (And.intro hlt (And.intro hin (And.intro (ra_pt hk) (And.intro hA (And.intro hB True.intro))))) (by kernel_rfl))

set_option maxRecDepth 100000 in
theorem mi_ny {l s : List Pt} {k : Nat} {p g : Pt} (hk : l[k]? = some p) (hin : 0 ≤ (k : Int) ∧ (k : Int) < (l.length : Int)) (hlt : decide ((k : Int) < (l.length : Int)) = true) (hA : LookIs Try.prog 90 (byV s) (.int .i64 p.a) true (.tuple #[pointV 0 0 0, .bool false])) (hB : LookIs Try.prog 90 (byV s) (.int .i64 p.b) true (.tuple #[ptV g, .bool true])) : RunsL Try.prog 3 3 (loopOf Try.prog 85 0) 19 3 ([(0, .ls 0 l.length), (1, .pc 72 [.pp 2 0]), (7, .pv (.int .i64 (l.length : Int))), (8, .pv (.int .i64 (k : Int)))]) ([(0, 0, rowC l), (1, 0, .mrow (byV s)), (2, 0, .mp 1)]) (.ret) ([(4, .pv (.int .i64 (k : Int)))]) ([]) :=
  RunsL.stop [] 300 [.t true, .r (ptV p), .k, .r (.tuple #[pointV 0 0 0, .bool false]), .r (.tuple #[ptV g, .bool true]), .k] (fun h => by cases h)
    (round_of (And.intro hlt (And.intro hin (And.intro (ra_pt hk) (And.intro hA (And.intro hB True.intro))))) (by kernel_rfl))

set_option maxRecDepth 100000 in
theorem mi_yn {l s : List Pt} {k : Nat} {p q : Pt} (hk : l[k]? = some p) (hin : 0 ≤ (k : Int) ∧ (k : Int) < (l.length : Int)) (hlt : decide ((k : Int) < (l.length : Int)) = true) (hA : LookIs Try.prog 90 (byV s) (.int .i64 p.a) true (.tuple #[ptV q, .bool true])) (hB : LookIs Try.prog 90 (byV s) (.int .i64 p.b) true (.tuple #[pointV 0 0 0, .bool false])) : RunsL Try.prog 3 3 (loopOf Try.prog 85 0) 19 3 ([(0, .ls 0 l.length), (1, .pc 72 [.pp 2 0]), (7, .pv (.int .i64 (l.length : Int))), (8, .pv (.int .i64 (k : Int)))]) ([(0, 0, rowC l), (1, 0, .mrow (byV s)), (2, 0, .mp 1)]) (.ret) ([(4, .pv (.int .i64 (k : Int)))]) ([]) :=
  RunsL.stop [] 300 [.t true, .r (ptV p), .k, .r (.tuple #[ptV q, .bool true]), .r (.tuple #[pointV 0 0 0, .bool false]), .k, .k] (fun h => by cases h)
    (round_of (And.intro hlt (And.intro hin (And.intro (ra_pt hk) (And.intro hA (And.intro hB True.intro))))) (by kernel_rfl))

set_option maxRecDepth 100000 in
theorem mi_end {l s : List Pt} {k : Nat} (hge : decide ((k : Int) < (l.length : Int)) = false) : RunsL Try.prog 3 3 (loopOf Try.prog 85 0) 19 3 ([(0, .ls 0 l.length), (1, .pc 72 [.pp 2 0]), (7, .pv (.int .i64 (l.length : Int))), (8, .pv (.int .i64 (k : Int)))]) ([(0, 0, rowC l), (1, 0, .mrow (byV s)), (2, 0, .mp 1)]) (.exit 0) ([]) ([]) :=
  RunsL.stop [] 300 [.t false] (fun h => by cases h)
    (round_of (And.intro hge True.intro) (by kernel_rfl))

set_option maxRecDepth 100000 in
theorem mi_no {l s : List Pt} (r0 : RunsL Try.prog 3 3 (loopOf Try.prog 85 0) 19 3 ([(0, .ls 0 l.length), (1, .pc 72 [.pp 2 0]), (7, .pv (.int .i64 (l.length : Int))), (8, .pv (.int .i64 ((0 : Nat) : Int)))]) ([(0, 0, rowC l), (1, 0, .mrow (byV s)), (2, 0, .mp 1)]) (.exit 0) ([]) ([])) :
    FnL Try.prog 85 3 [.ls 0 l.length, .pc 72 [.pp 2 0]] [(0, 0, rowC l), (1, 0, .mrow (byV s)), (2, 0, .mp 1)] (.pv (.int .i64 (-1))) 0 [] :=
  fnl_run 300 [] [.l (.exit 0) ([(0, .ls 0 l.length), (1, .pc 72 [.pp 2 0]), (7, .pv (.int .i64 (l.length : Int))), (8, .pv (.int .i64 ((0 : Nat) : Int)))]) ([(0, 0, rowC l), (1, 0, .mrow (byV s)), (2, 0, .mp 1)]) ([]) ([])]
     True.intro (And.intro (reflT (renN []) ([(0, .ls 0 l.length), (1, .pc 72 [.pp 2 0]), (7, .pv (.int .i64 (l.length : Int))), (8, .pv (.int .i64 ((0 : Nat) : Int)))])) (And.intro (reflH (renN []) ([(0, 0, rowC l), (1, 0, .mrow (byV s)), (2, 0, .mp 1)])) (And.intro r0 True.intro))) (by kernel_rfl)

set_option maxRecDepth 100000 in
theorem mi_yes {l s : List Pt} {k : Nat} (r0 : RunsL Try.prog 3 3 (loopOf Try.prog 85 0) 19 3 ([(0, .ls 0 l.length), (1, .pc 72 [.pp 2 0]), (7, .pv (.int .i64 (l.length : Int))), (8, .pv (.int .i64 ((0 : Nat) : Int)))]) ([(0, 0, rowC l), (1, 0, .mrow (byV s)), (2, 0, .mp 1)]) (.ret) ([(4, .pv (.int .i64 (k : Int)))]) ([])) :
    FnL Try.prog 85 3 [.ls 0 l.length, .pc 72 [.pp 2 0]] [(0, 0, rowC l), (1, 0, .mrow (byV s)), (2, 0, .mp 1)] (.pv (.int .i64 ((k : Int)))) 0 [] :=
  fnl_run 300 [] [.l (.ret) ([(0, .ls 0 l.length), (1, .pc 72 [.pp 2 0]), (7, .pv (.int .i64 (l.length : Int))), (8, .pv (.int .i64 ((0 : Nat) : Int)))]) ([(0, 0, rowC l), (1, 0, .mrow (byV s)), (2, 0, .mp 1)]) ([(4, .pv (.int .i64 (k : Int)))]) ([])]
     True.intro (And.intro (reflT (renN []) ([(0, .ls 0 l.length), (1, .pc 72 [.pp 2 0]), (7, .pv (.int .i64 (l.length : Int))), (8, .pv (.int .i64 ((0 : Nat) : Int)))])) (And.intro (reflH (renN []) ([(0, 0, rowC l), (1, 0, .mrow (byV s)), (2, 0, .mp 1)])) (And.intro r0 True.intro))) (by kernel_rfl)

set_option maxRecDepth 100000 in
theorem mc_no {l s : List Pt} (hi : FnL Try.prog 85 3 [.ls 0 l.length, .pc 72 [.pp 2 0]] [(0, 0, rowC l), (1, 0, .mrow (byV s)), (2, 0, .mp 1)] (.pv (.int .i64 (-1))) 0 []) :
    FnL Try.prog 64 3 [.ls 0 l.length, .pc 72 [.pp 2 0]] [(0, 0, rowC l), (1, 0, .mrow (byV s)), (2, 0, .mp 1)] (.pv (.bool false)) 0 [] :=
  fnl_run 300 [] [.f [0,1,2] [.ls 0 l.length, .pc 72 [.pp 2 0]] [(0, 0, rowC l), (1, 0, .mrow (byV s)), (2, 0, .mp 1)] (.pv (.int .i64 (-1))) 0 [], .k]
     True.intro (And.intro hi (And.intro (Eq.refl (List.map (SV.ren (renU [0,1,2] 3)) [.ls 0 l.length, .pc 72 [.pp 2 0]])) (And.intro (reflH (renU [0,1,2] 3) [(0, 0, rowC l), (1, 0, .mrow (byV s)), (2, 0, .mp 1)]) True.intro))) (by kernel_rfl)

set_option maxRecDepth 100000 in
theorem mc_yes {l s : List Pt} {k : Nat} (hi : FnL Try.prog 85 3 [.ls 0 l.length, .pc 72 [.pp 2 0]] [(0, 0, rowC l), (1, 0, .mrow (byV s)), (2, 0, .mp 1)] (.pv (.int .i64 ((k : Int)))) 0 []) (h0 : decide ((k : Int) ≥ 0) = true) :
    FnL Try.prog 64 3 [.ls 0 l.length, .pc 72 [.pp 2 0]] [(0, 0, rowC l), (1, 0, .mrow (byV s)), (2, 0, .mp 1)] (.pv (.bool true)) 0 [] :=
  fnl_run 300 [] [.f [0,1,2] [.ls 0 l.length, .pc 72 [.pp 2 0]] [(0, 0, rowC l), (1, 0, .mrow (byV s)), (2, 0, .mp 1)] (.pv (.int .i64 ((k : Int)))) 0 [], .t true]
     True.intro (And.intro hi (And.intro (Eq.refl (List.map (SV.ren (renU [0,1,2] 3)) [.ls 0 l.length, .pc 72 [.pp 2 0]])) (And.intro (reflH (renU [0,1,2] 3) [(0, 0, rowC l), (1, 0, .mrow (byV s)), (2, 0, .mp 1)]) (And.intro h0 True.intro)))) (by kernel_rfl)

set_option maxRecDepth 100000 in
theorem ha_no {l s : List Pt} {x : Int} (ht : FnL Try.prog 64 3 [.ls 0 l.length, .pc 72 [.pp 2 0]] [(0, 0, rowC l), (1, 0, .mrow (byV s)), (2, 0, .mp 1)] (.pv (.bool true)) 0 []) :
    FnL Try.prog 49 2 [.mp 1, crtS 0 x l] [(0, 0, rowC l), (1, 0, .mrow (byV s))] (.pv (.bool false)) 0 [] :=
  fnl_run 300 [] [.f [0,1,2] [.ls 0 l.length, .pc 72 [.pp 2 0]] [(0, 0, rowC l), (1, 0, .mrow (byV s)), (2, 0, .mp 1)] (.pv (.bool true)) 0 [], .k]
     True.intro (And.intro ht (And.intro (Eq.refl (List.map (SV.ren (renU [0,1,2] 4)) [.ls 0 l.length, .pc 72 [.pp 2 0]])) (And.intro (reflH (renU [0,1,2] 4) [(0, 0, rowC l), (1, 0, .mrow (byV s)), (2, 0, .mp 1)]) True.intro))) (by kernel_rfl)

set_option maxRecDepth 100000 in
theorem ha_yes {l s : List Pt} {x : Int} (ht : FnL Try.prog 64 3 [.ls 0 l.length, .pc 72 [.pp 2 0]] [(0, 0, rowC l), (1, 0, .mrow (byV s)), (2, 0, .mp 1)] (.pv (.bool false)) 0 []) :
    FnL Try.prog 49 2 [.mp 1, crtS 0 x l] [(0, 0, rowC l), (1, 0, .mrow (byV s))] (.pv (.bool true)) 0 [] :=
  fnl_run 300 [] [.f [0,1,2] [.ls 0 l.length, .pc 72 [.pp 2 0]] [(0, 0, rowC l), (1, 0, .mrow (byV s)), (2, 0, .mp 1)] (.pv (.bool false)) 0 [], .k]
     True.intro (And.intro ht (And.intro (Eq.refl (List.map (SV.ren (renU [0,1,2] 4)) [.ls 0 l.length, .pc 72 [.pp 2 0]])) (And.intro (reflH (renU [0,1,2] 4) [(0, 0, rowC l), (1, 0, .mrow (byV s)), (2, 0, .mp 1)]) True.intro))) (by kernel_rfl)

set_option maxRecDepth 100000 in
theorem ho_skip {l s : List Pt} {vs : List Value} {k m : Nat} {p q g : Pt} {tn td : Int} (hk : l[k]? = some p) (hin : 0 ≤ (k : Int) ∧ (k : Int) < (l.length : Int)) (hlt : decide ((k : Int) < (l.length : Int)) = true) (hB : LookIs Try.prog 90 (byV s) (.int .i64 p.b) false (ptV g)) (hA : LookIs Try.prog 90 (byV s) (.int .i64 p.a) false (ptV q)) (ha : Pure Try.prog 38 #[ptV g, ptV q, ratioV tn td] (.tuple #[.bool false, .int .i64 0])) (hs : Value.int .i64 (IntKind.i64.wrap ((k : Int) + 1)) = .int .i64 (((k + 1 : Nat) : Int))) {e : Exit} {tm2 : List (Nat × SV)} {hp2 : List (Nat × Nat × SV)}
    (r : RunsL Try.prog 4 4 (loopOf Try.prog 44 0) 26 6 ([(1, .pc 50 [.pp 2 0, .pp 3 0]), (5, .ls 5 (m)), (9, .ls 0 l.length), (10, .pv (.int .i64 (l.length : Int))), (11, .pv (.int .i64 ((k + 1 : Nat) : Int)))]) ([(0, 0, rowC l), (1, 0, .mrow (byV s)), (2, 0, .mp 1), (3, 0, .pv (.int .i64 tn)), (3, 1, .pv (.int .i64 td)), (5, 0, .row 3 1 (m) (vs))]) e tm2 hp2) : RunsL Try.prog 4 4 (loopOf Try.prog 44 0) 26 6 ([(1, .pc 50 [.pp 2 0, .pp 3 0]), (5, .ls 5 (m)), (9, .ls 0 l.length), (10, .pv (.int .i64 (l.length : Int))), (11, .pv (.int .i64 (k : Int)))]) ([(0, 0, rowC l), (1, 0, .mrow (byV s)), (2, 0, .mp 1), (3, 0, .pv (.int .i64 tn)), (3, 1, .pv (.int .i64 td)), (5, 0, .row 3 1 (m) (vs))]) e tm2 hp2 :=
  RunsL.next [] 300 [.t true, .r (ptV p), .k, .r (ptV g), .r (ptV q), .r (.tuple #[.bool false, .int .i64 0]), .r (.int .i64 (((k + 1 : Nat) : Int)))]
    (round_of (And.intro hlt (And.intro hin (And.intro (ra_pt hk) (And.intro hB (And.intro hA (And.intro ha (And.intro hs True.intro))))))) (by kernel_rfl)) r

set_option maxRecDepth 100000 in
theorem ho_keep {l s : List Pt} {vs : List Value} {k m : Nat} {p q g : Pt} {tn td : Int} (hk : l[k]? = some p) (hin : 0 ≤ (k : Int) ∧ (k : Int) < (l.length : Int)) (hlt : decide ((k : Int) < (l.length : Int)) = true) (hB : LookIs Try.prog 90 (byV s) (.int .i64 p.b) false (ptV g)) (hA : LookIs Try.prog 90 (byV s) (.int .i64 p.a) false (ptV q)) (ha : Pure Try.prog 38 #[ptV g, ptV q, ratioV tn td] (.tuple #[.bool true, .int .i64 0])) (hm : m + 1 ≤ 1000000) (hs : Value.int .i64 (IntKind.i64.wrap ((k : Int) + 1)) = .int .i64 (((k + 1 : Nat) : Int))) {e : Exit} {tm2 : List (Nat × SV)} {hp2 : List (Nat × Nat × SV)}
    (r : RunsL Try.prog 4 4 (loopOf Try.prog 44 0) 26 6 ([(1, .pc 50 [.pp 2 0, .pp 3 0]), (5, .ls 5 (m + 1)), (9, .ls 0 l.length), (10, .pv (.int .i64 (l.length : Int))), (11, .pv (.int .i64 ((k + 1 : Nat) : Int)))]) ([(0, 0, rowC l), (1, 0, .mrow (byV s)), (2, 0, .mp 1), (3, 0, .pv (.int .i64 tn)), (3, 1, .pv (.int .i64 td)), (5, 0, .row 3 1 (m + 1) (vs ++ [.int .i64 p.id]))]) e tm2 hp2) : RunsL Try.prog 4 4 (loopOf Try.prog 44 0) 26 6 ([(1, .pc 50 [.pp 2 0, .pp 3 0]), (5, .ls 5 (m)), (9, .ls 0 l.length), (10, .pv (.int .i64 (l.length : Int))), (11, .pv (.int .i64 (k : Int)))]) ([(0, 0, rowC l), (1, 0, .mrow (byV s)), (2, 0, .mp 1), (3, 0, .pv (.int .i64 tn)), (3, 1, .pv (.int .i64 td)), (5, 0, .row 3 1 (m) (vs))]) e tm2 hp2 :=
  RunsL.next [(5, 9)] 300 [.t true, .r (ptV p), .k, .r (ptV g), .r (ptV q), .r (.tuple #[.bool true, .int .i64 0]), .r (.int .i64 (((k + 1 : Nat) : Int)))]
    (round_of (And.intro hlt (And.intro hin (And.intro (ra_pt hk) (And.intro hB (And.intro hA (And.intro ha (And.intro hm (And.intro hs True.intro)))))))) (by kernel_rfl)) r

set_option maxRecDepth 100000 in
theorem ho_end {l s : List Pt} {vs : List Value} {k m : Nat} {tn td : Int} (hge : decide ((k : Int) < (l.length : Int)) = false) : RunsL Try.prog 4 4 (loopOf Try.prog 44 0) 26 6 ([(1, .pc 50 [.pp 2 0, .pp 3 0]), (5, .ls 5 (m)), (9, .ls 0 l.length), (10, .pv (.int .i64 (l.length : Int))), (11, .pv (.int .i64 (k : Int)))]) ([(0, 0, rowC l), (1, 0, .mrow (byV s)), (2, 0, .mp 1), (3, 0, .pv (.int .i64 tn)), (3, 1, .pv (.int .i64 td)), (5, 0, .row 3 1 (m) (vs))]) (.exit 0) ([(5, .ls 5 m)]) ([(0, 0, rowC l), (1, 0, .mrow (byV s)), (2, 0, .mp 1), (3, 0, .pv (.int .i64 tn)), (3, 1, .pv (.int .i64 td)), (5, 0, .row 3 1 (m) (vs))]) :=
  RunsL.stop [] 300 [.t false] (fun h => by cases h)
    (round_of (And.intro hge True.intro) (by kernel_rfl))

set_option maxRecDepth 100000 in
theorem ho_path {l s : List Pt} {vs : List Value} {m : Nat} {x tn td : Int} (r0 : RunsL Try.prog 4 4 (loopOf Try.prog 44 0) 26 6 ([(1, .pc 50 [.pp 2 0, .pp 3 0]), (5, .ls 5 (0)), (9, .ls 0 l.length), (10, .pv (.int .i64 (l.length : Int))), (11, .pv (.int .i64 ((0 : Nat) : Int)))]) ([(0, 0, rowC l), (1, 0, .mrow (byV s)), (2, 0, .mp 1), (3, 0, .pv (.int .i64 tn)), (3, 1, .pv (.int .i64 td)), (5, 0, .row 3 1 (0) ([]))]) (.exit 0) ([(5, .ls 5 m)]) ([(0, 0, rowC l), (1, 0, .mrow (byV s)), (2, 0, .mp 1), (3, 0, .pv (.int .i64 tn)), (3, 1, .pv (.int .i64 td)), (5, 0, .row 3 1 (m) (vs))])) :
    FnL Try.prog 44 4 [crtS 0 x l, .pc 50 [.pp 2 0, .pp 3 0]] [(0, 0, rowC l), (1, 0, .mrow (byV s)), (2, 0, .mp 1), (3, 0, .pv (.int .i64 tn)), (3, 1, .pv (.int .i64 td))] (.ls 4 m) 1 [(4, 0, .row 3 1 m vs)] :=
  fnl_run 300 [(4, 5)] [.ln true 5 0 3 1, .l (.exit 0) ([(1, .pc 50 [.pp 2 0, .pp 3 0]), (5, .ls 5 (0)), (9, .ls 0 l.length), (10, .pv (.int .i64 (l.length : Int))), (11, .pv (.int .i64 ((0 : Nat) : Int)))]) ([(0, 0, rowC l), (1, 0, .mrow (byV s)), (2, 0, .mp 1), (3, 0, .pv (.int .i64 tn)), (3, 1, .pv (.int .i64 td)), (5, 0, .row 3 1 (0) ([]))]) ([(5, .ls 5 m)]) ([(0, 0, rowC l), (1, 0, .mrow (byV s)), (2, 0, .mp 1), (3, 0, .pv (.int .i64 tn)), (3, 1, .pv (.int .i64 td)), (5, 0, .row 3 1 (m) (vs))])]
     (reflH (renN [(4, 5)]) [(4, 0, .row 3 1 m vs)]) (And.intro (reflT (renN []) ([(1, .pc 50 [.pp 2 0, .pp 3 0]), (5, .ls 5 (0)), (9, .ls 0 l.length), (10, .pv (.int .i64 (l.length : Int))), (11, .pv (.int .i64 ((0 : Nat) : Int)))])) (And.intro (reflH (renN []) ([(0, 0, rowC l), (1, 0, .mrow (byV s)), (2, 0, .mp 1), (3, 0, .pv (.int .i64 tn)), (3, 1, .pv (.int .i64 td)), (5, 0, .row 3 1 (0) ([]))])) (And.intro r0 True.intro))) (by kernel_rfl)

set_option maxRecDepth 100000 in
theorem ph8_e1 {l s : List Pt} {x tn td e e2 e3 : Int} (c1 : FnL Try.prog 16 1 [crtS 0 x l] [(0, 0, rowC l)] (.pv (.int .i64 (e))) 0 []) (c2 : FnL Try.prog 46 1 [fldS 0 s] [(0, 0, rowP s)] (.pv (.int .i64 (e2))) 0 []) (c3 : Pure Try.prog 47 #[ratioV tn td] (.int .i64 (e3))) (he : (e != 0) = true) :
    FnL Try.prog 14 2 [crtS 0 x l, fldS 1 s, .pv (ratioV tn td)] [(0, 0, rowC l), (1, 0, rowP s)] (.pv (.tuple #[.slice none 0 0, .int .i64 e])) 0 [] :=
  fnl_run 300 [] [.f [0] [crtS 0 x l] [(0, 0, rowC l)] (.pv (.int .i64 (e))) 0 [], .f [1] [fldS 0 s] [(0, 0, rowP s)] (.pv (.int .i64 (e2))) 0 [], .r (.int .i64 (e3)), .k, .k, .t true, .t true]
     True.intro (And.intro c1 (And.intro (Eq.refl (List.map (SV.ren (renU [0] 5)) [crtS 0 x l])) (And.intro (reflH (renU [0] 5) [(0, 0, rowC l)]) (And.intro c2 (And.intro (Eq.refl (List.map (SV.ren (renU [1] 5)) [fldS 0 s])) (And.intro (reflH (renU [1] 5) [(0, 0, rowP s)]) (And.intro c3 (And.intro he (And.intro he True.intro))))))))) (by kernel_rfl)

set_option maxRecDepth 100000 in
theorem ph8_e2 {l s : List Pt} {x tn td e e3 : Int} (c1 : FnL Try.prog 16 1 [crtS 0 x l] [(0, 0, rowC l)] (.pv (.int .i64 (0))) 0 []) (c2 : FnL Try.prog 46 1 [fldS 0 s] [(0, 0, rowP s)] (.pv (.int .i64 (e))) 0 []) (c3 : Pure Try.prog 47 #[ratioV tn td] (.int .i64 (e3))) (he : (e != 0) = true) :
    FnL Try.prog 14 2 [crtS 0 x l, fldS 1 s, .pv (ratioV tn td)] [(0, 0, rowC l), (1, 0, rowP s)] (.pv (.tuple #[.slice none 0 0, .int .i64 e])) 0 [] :=
  fnl_run 300 [] [.f [0] [crtS 0 x l] [(0, 0, rowC l)] (.pv (.int .i64 (0))) 0 [], .f [1] [fldS 0 s] [(0, 0, rowP s)] (.pv (.int .i64 (e))) 0 [], .r (.int .i64 (e3)), .k, .k, .k, .k, .k, .t true, .t true]
     True.intro (And.intro c1 (And.intro (Eq.refl (List.map (SV.ren (renU [0] 5)) [crtS 0 x l])) (And.intro (reflH (renU [0] 5) [(0, 0, rowC l)]) (And.intro c2 (And.intro (Eq.refl (List.map (SV.ren (renU [1] 5)) [fldS 0 s])) (And.intro (reflH (renU [1] 5) [(0, 0, rowP s)]) (And.intro c3 (And.intro he (And.intro he True.intro))))))))) (by kernel_rfl)

set_option maxRecDepth 100000 in
theorem ph8_e3 {l s : List Pt} {x tn td e : Int} (c1 : FnL Try.prog 16 1 [crtS 0 x l] [(0, 0, rowC l)] (.pv (.int .i64 (0))) 0 []) (c2 : FnL Try.prog 46 1 [fldS 0 s] [(0, 0, rowP s)] (.pv (.int .i64 (0))) 0 []) (c3 : Pure Try.prog 47 #[ratioV tn td] (.int .i64 (e))) (he : (e != 0) = true) :
    FnL Try.prog 14 2 [crtS 0 x l, fldS 1 s, .pv (ratioV tn td)] [(0, 0, rowC l), (1, 0, rowP s)] (.pv (.tuple #[.slice none 0 0, .int .i64 e])) 0 [] :=
  fnl_run 300 [] [.f [0] [crtS 0 x l] [(0, 0, rowC l)] (.pv (.int .i64 (0))) 0 [], .f [1] [fldS 0 s] [(0, 0, rowP s)] (.pv (.int .i64 (0))) 0 [], .r (.int .i64 (e)), .k, .k, .k, .k, .k, .k, .k, .k, .t true, .t true]
     True.intro (And.intro c1 (And.intro (Eq.refl (List.map (SV.ren (renU [0] 5)) [crtS 0 x l])) (And.intro (reflH (renU [0] 5) [(0, 0, rowC l)]) (And.intro c2 (And.intro (Eq.refl (List.map (SV.ren (renU [1] 5)) [fldS 0 s])) (And.intro (reflH (renU [1] 5) [(0, 0, rowP s)]) (And.intro c3 (And.intro he (And.intro he True.intro))))))))) (by kernel_rfl)

set_option maxRecDepth 100000 in
theorem ph8_no {l s s2 : List Pt} {x tn td : Int} (c1 : FnL Try.prog 16 1 [crtS 0 x l] [(0, 0, rowC l)] (.pv (.int .i64 (0))) 0 []) (c2 : FnL Try.prog 46 1 [fldS 0 s] [(0, 0, rowP s)] (.pv (.int .i64 (0))) 0 []) (c3 : Pure Try.prog 47 #[ratioV tn td] (.int .i64 (0))) (hb : FnL Try.prog 48 1 [fldS 0 s] [(0, 0, rowP s)] (.mp 1) 1 [(1, 0, .mrow (byV s2))]) (hh : FnL Try.prog 49 2 [.mp 1, crtS 0 x l] [(0, 0, rowC l), (1, 0, .mrow (byV s2))] (.pv (.bool false)) 0 []) :
    FnL Try.prog 14 2 [crtS 0 x l, fldS 1 s, .pv (ratioV tn td)] [(0, 0, rowC l), (1, 0, rowP s)] (.pv (.tuple #[.slice none 0 0, .int .i64 6])) 0 [] :=
  fnl_run 300 [] [.f [0] [crtS 0 x l] [(0, 0, rowC l)] (.pv (.int .i64 (0))) 0 [], .f [1] [fldS 0 s] [(0, 0, rowP s)] (.pv (.int .i64 (0))) 0 [], .r (.int .i64 (0)), .k, .k, .k, .k, .k, .k, .k, .k, .k, .k, .k, .k, .f [1] [fldS 0 s] [(0, 0, rowP s)] (.mp 1) 1 [(1, 0, .mrow (byV s2))], .f [0,6] [.mp 1, crtS 0 x l] [(0, 0, rowC l), (1, 0, .mrow (byV s2))] (.pv (.bool false)) 0 [], .k]
     True.intro (And.intro c1 (And.intro (Eq.refl (List.map (SV.ren (renU [0] 5)) [crtS 0 x l])) (And.intro (reflH (renU [0] 5) [(0, 0, rowC l)]) (And.intro c2 (And.intro (Eq.refl (List.map (SV.ren (renU [1] 5)) [fldS 0 s])) (And.intro (reflH (renU [1] 5) [(0, 0, rowP s)]) (And.intro c3 (And.intro hb (And.intro (Eq.refl (List.map (SV.ren (renU [1] 6)) [fldS 0 s])) (And.intro (reflH (renU [1] 6) [(0, 0, rowP s)]) (And.intro hh (And.intro (Eq.refl (List.map (SV.ren (renU [0,6] 8)) [.mp 1, crtS 0 x l])) (And.intro (reflH (renU [0,6] 8) [(0, 0, rowC l), (1, 0, .mrow (byV s2))]) True.intro))))))))))))) (by kernel_rfl)

set_option maxRecDepth 100000 in
theorem ph8_ok {l s s2 : List Pt} {vs : List Value} {m : Nat} {x tn td : Int} (c1 : FnL Try.prog 16 1 [crtS 0 x l] [(0, 0, rowC l)] (.pv (.int .i64 (0))) 0 []) (c2 : FnL Try.prog 46 1 [fldS 0 s] [(0, 0, rowP s)] (.pv (.int .i64 (0))) 0 []) (c3 : Pure Try.prog 47 #[ratioV tn td] (.int .i64 (0))) (hb : FnL Try.prog 48 1 [fldS 0 s] [(0, 0, rowP s)] (.mp 1) 1 [(1, 0, .mrow (byV s2))]) (hh : FnL Try.prog 49 2 [.mp 1, crtS 0 x l] [(0, 0, rowC l), (1, 0, .mrow (byV s2))] (.pv (.bool true)) 0 []) (hn : FnL Try.prog 44 4 [crtS 0 x l, .pc 50 [.pp 2 0, .pp 3 0]] [(0, 0, rowC l), (1, 0, .mrow (byV s2)), (2, 0, .mp 1), (3, 0, .pv (.int .i64 tn)), (3, 1, .pv (.int .i64 td))] (.ls 4 m) 1 [(4, 0, .row 3 1 m vs)]) :
    FnL Try.prog 14 2 [crtS 0 x l, fldS 1 s, .pv (ratioV tn td)] [(0, 0, rowC l), (1, 0, rowP s)] (.tu [.one (.ls 2 m), .one (.pv (.int .i64 0))]) 1 [(2, 0, .row 3 1 m vs)] :=
  fnl_run 300 [(2, 8)] [.f [0] [crtS 0 x l] [(0, 0, rowC l)] (.pv (.int .i64 (0))) 0 [], .f [1] [fldS 0 s] [(0, 0, rowP s)] (.pv (.int .i64 (0))) 0 [], .r (.int .i64 (0)), .k, .k, .k, .k, .k, .k, .k, .k, .k, .k, .k, .k, .f [1] [fldS 0 s] [(0, 0, rowP s)] (.mp 1) 1 [(1, 0, .mrow (byV s2))], .f [0,6] [.mp 1, crtS 0 x l] [(0, 0, rowC l), (1, 0, .mrow (byV s2))] (.pv (.bool true)) 0 [], .k, .f [0,6,7,4] [crtS 0 x l, .pc 50 [.pp 2 0, .pp 3 0]] [(0, 0, rowC l), (1, 0, .mrow (byV s2)), (2, 0, .mp 1), (3, 0, .pv (.int .i64 tn)), (3, 1, .pv (.int .i64 td))] (.ls 4 m) 1 [(4, 0, .row 3 1 m vs)]]
     (reflH (renN [(2, 8)]) [(2, 0, .row 3 1 m vs)]) (And.intro c1 (And.intro (Eq.refl (List.map (SV.ren (renU [0] 5)) [crtS 0 x l])) (And.intro (reflH (renU [0] 5) [(0, 0, rowC l)]) (And.intro c2 (And.intro (Eq.refl (List.map (SV.ren (renU [1] 5)) [fldS 0 s])) (And.intro (reflH (renU [1] 5) [(0, 0, rowP s)]) (And.intro c3 (And.intro hb (And.intro (Eq.refl (List.map (SV.ren (renU [1] 6)) [fldS 0 s])) (And.intro (reflH (renU [1] 6) [(0, 0, rowP s)]) (And.intro hh (And.intro (Eq.refl (List.map (SV.ren (renU [0,6] 8)) [.mp 1, crtS 0 x l])) (And.intro (reflH (renU [0,6] 8) [(0, 0, rowC l), (1, 0, .mrow (byV s2))]) (And.intro hn (And.intro (Eq.refl (List.map (SV.ren (renU [0,6,7,4] 8)) [crtS 0 x l, .pc 50 [.pp 2 0, .pp 3 0]])) (And.intro (reflH (renU [0,6,7,4] 8) [(0, 0, rowC l), (1, 0, .mrow (byV s2)), (2, 0, .mp 1), (3, 0, .pv (.int .i64 tn)), (3, 1, .pv (.int .i64 td))]) True.intro)))))))))))))))) (by kernel_rfl)

end Go.Proofs.Ytjjmnoiffpnphaa
