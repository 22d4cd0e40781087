/-
  Check of package cert, path by path. Conditions: none.
-/
import Derived.Test.YtjjmnoiffpnphaaW32
namespace Go.Proofs.Ytjjmnoiffpnphaa
open Go.RowKit
set_option maxRecDepth 100000 in
theorem id_lo {a : Int} (h0 : decide (0 ≤ a) = false) :
    Pure Try.prog 84 #[.int .i64 a] (.bool false) :=
  pure_run (args := [.int .i64 a]) 300 [.t false]
    (And.intro rfl (And.intro h0 True.intro)) (by kernel_rfl)

set_option maxRecDepth 100000 in
theorem id_hi {a : Int} (h0 : decide (0 ≤ a) = true) (h1 : decide (a ≤ 65535) = false) :
    Pure Try.prog 84 #[.int .i64 a] (.bool false) :=
  pure_run (args := [.int .i64 a]) 300 [.t true, .t false]
    (And.intro rfl (And.intro h0 (And.intro h1 True.intro))) (by kernel_rfl)

set_option maxRecDepth 100000 in
theorem id_ok {a : Int} (h0 : decide (0 ≤ a) = true) (h1 : decide (a ≤ 65535) = true) :
    Pure Try.prog 84 #[.int .i64 a] (.bool true) :=
  pure_run (args := [.int .i64 a]) 300 [.t true, .t true]
    (And.intro rfl (And.intro h0 (And.intro h1 True.intro))) (by kernel_rfl)

set_option maxRecDepth 100000 in
theorem iv_a {a b : Int} (ha : Pure Try.prog 84 #[.int .i64 a] (.bool false)) :
    Pure Try.prog 63 #[certV a b] (.bool false) :=
  pure_run (args := [certV a b]) 300 [.r (.bool false)]
    (And.intro rfl (And.intro ha True.intro)) (by kernel_rfl)

set_option maxRecDepth 100000 in
theorem iv_b {a b : Int} (ha : Pure Try.prog 84 #[.int .i64 a] (.bool true)) (hb : Pure Try.prog 84 #[.int .i64 b] (.bool false)) :
    Pure Try.prog 63 #[certV a b] (.bool false) :=
  pure_run (args := [certV a b]) 300 [.r (.bool true), .r (.bool false)]
    (And.intro rfl (And.intro ha (And.intro hb True.intro))) (by kernel_rfl)

set_option maxRecDepth 100000 in
theorem iv_ok {a b : Int} (ha : Pure Try.prog 84 #[.int .i64 a] (.bool true)) (hb : Pure Try.prog 84 #[.int .i64 b] (.bool true)) (hn : (a != b) = true) :
    Pure Try.prog 63 #[certV a b] (.bool true) :=
  pure_run (args := [certV a b]) 300 [.r (.bool true), .r (.bool true), .t true]
    (And.intro rfl (And.intro ha (And.intro hb (And.intro hn True.intro)))) (by kernel_rfl)

set_option maxRecDepth 100000 in
theorem iv_eq {a b : Int} (ha : Pure Try.prog 84 #[.int .i64 a] (.bool true)) (hb : Pure Try.prog 84 #[.int .i64 b] (.bool true)) (hn : (a != b) = false) :
    Pure Try.prog 63 #[certV a b] (.bool false) :=
  pure_run (args := [certV a b]) 300 [.r (.bool true), .r (.bool true), .t false]
    (And.intro rfl (And.intro ha (And.intro hb (And.intro hn True.intro)))) (by kernel_rfl)

set_option maxRecDepth 100000 in
theorem nf_next {l : List Pt} {k : Nat} {p : Pt} {x y : Int} (hk : l[k]? = some p) (hin : 0 ≤ (k : Int) ∧ (k : Int) < (l.length : Int)) (hlt : decide ((k : Int) < (l.length : Int)) = true) (hle : decide (p.id ≤ y) = false) (hs : Value.int .i64 (IntKind.i64.wrap ((k : Int) + 1)) = .int .i64 (((k + 1 : Nat) : Int))) {e : Exit} {tm2 : List (Nat × SV)} {hp2 : List (Nat × Nat × SV)}
    (r : RunsL Try.prog 1 1 (loopOf Try.prog 51 0) 29 2 ([(1, .pp 1 0), (3, .pv (.int .i64 (p.id))), (7, .ls 0 l.length), (8, .pv (.int .i64 (l.length : Int))), (9, .pv (.int .i64 ((k + 1 : Nat) : Int)))]) ([(1, 0, .pv (.int .i64 x)), (1, 1, .ls 0 l.length), (0, 0, rowC l)]) e tm2 hp2) : RunsL Try.prog 1 1 (loopOf Try.prog 51 0) 29 2 ([(1, .pp 1 0), (3, .pv (.int .i64 (y))), (7, .ls 0 l.length), (8, .pv (.int .i64 (l.length : Int))), (9, .pv (.int .i64 (k : Int)))]) ([(1, 0, .pv (.int .i64 x)), (1, 1, .ls 0 l.length), (0, 0, rowC l)]) e tm2 hp2 :=
  RunsL.next [] 300 [.t true, .r (ptV p), .t false, .r (.int .i64 (((k + 1 : Nat) : Int)))]
    (round_of (And.intro hlt (And.intro hin (And.intro (ra_pt hk) (And.intro hle (And.intro hs True.intro))))) (by kernel_rfl)) r

set_option maxRecDepth 100000 in
theorem nf_bad {l : List Pt} {k : Nat} {p : Pt} {x y : Int} (hk : l[k]? = some p) (hin : 0 ≤ (k : Int) ∧ (k : Int) < (l.length : Int)) (hlt : decide ((k : Int) < (l.length : Int)) = true) (hle : decide (p.id ≤ y) = true) : RunsL Try.prog 1 1 (loopOf Try.prog 51 0) 29 2 ([(1, .pp 1 0), (3, .pv (.int .i64 (y))), (7, .ls 0 l.length), (8, .pv (.int .i64 (l.length : Int))), (9, .pv (.int .i64 (k : Int)))]) ([(1, 0, .pv (.int .i64 x)), (1, 1, .ls 0 l.length), (0, 0, rowC l)]) (.ret) ([(2, .pv (.bool false))]) ([]) :=
  RunsL.stop [] 300 [.t true, .r (ptV p), .t true] (fun h => by cases h)
    (round_of (And.intro hlt (And.intro hin (And.intro (ra_pt hk) (And.intro hle True.intro)))) (by kernel_rfl))

set_option maxRecDepth 100000 in
theorem nf_end {l : List Pt} {k : Nat} {x y : Int} (hge : decide ((k : Int) < (l.length : Int)) = false) : RunsL Try.prog 1 1 (loopOf Try.prog 51 0) 29 2 ([(1, .pp 1 0), (3, .pv (.int .i64 (y))), (7, .ls 0 l.length), (8, .pv (.int .i64 (l.length : Int))), (9, .pv (.int .i64 (k : Int)))]) ([(1, 0, .pv (.int .i64 x)), (1, 1, .ls 0 l.length), (0, 0, rowC l)]) (.exit 0) ([(1, .pp 1 0), (3, .pv (.int .i64 (y)))]) ([(1, 0, .pv (.int .i64 x)), (1, 1, .ls 0 l.length), (0, 0, rowC l)]) :=
  RunsL.stop [] 300 [.t false] (fun h => by cases h)
    (round_of (And.intro hge True.intro) (by kernel_rfl))

set_option maxRecDepth 100000 in
theorem nf_no {l : List Pt} {x : Int} (r0 : RunsL Try.prog 1 1 (loopOf Try.prog 51 0) 29 2 ([(1, .pp 1 0), (3, .pv (.int .i64 (-1))), (7, .ls 0 l.length), (8, .pv (.int .i64 (l.length : Int))), (9, .pv (.int .i64 ((0 : Nat) : Int)))]) ([(1, 0, .pv (.int .i64 x)), (1, 1, .ls 0 l.length), (0, 0, rowC l)]) (.ret) ([(2, .pv (.bool false))]) ([])) :
    FnL Try.prog 51 1 [crtS 0 x l] [(0, 0, rowC l)] (.pv (.bool false)) 0 [] :=
  fnl_run 300 [] [.l (.ret) ([(1, .pp 1 0), (3, .pv (.int .i64 (-1))), (7, .ls 0 l.length), (8, .pv (.int .i64 (l.length : Int))), (9, .pv (.int .i64 ((0 : Nat) : Int)))]) ([(1, 0, .pv (.int .i64 x)), (1, 1, .ls 0 l.length), (0, 0, rowC l)]) ([(2, .pv (.bool false))]) ([])]
     True.intro (And.intro (reflT (renN []) ([(1, .pp 1 0), (3, .pv (.int .i64 (-1))), (7, .ls 0 l.length), (8, .pv (.int .i64 (l.length : Int))), (9, .pv (.int .i64 ((0 : Nat) : Int)))])) (And.intro (reflH (renN []) ([(1, 0, .pv (.int .i64 x)), (1, 1, .ls 0 l.length), (0, 0, rowC l)])) (And.intro r0 True.intro))) (by kernel_rfl)

set_option maxRecDepth 100000 in
theorem nf_lo {l : List Pt} {x y : Int} (r0 : RunsL Try.prog 1 1 (loopOf Try.prog 51 0) 29 2 ([(1, .pp 1 0), (3, .pv (.int .i64 (-1))), (7, .ls 0 l.length), (8, .pv (.int .i64 (l.length : Int))), (9, .pv (.int .i64 ((0 : Nat) : Int)))]) ([(1, 0, .pv (.int .i64 x)), (1, 1, .ls 0 l.length), (0, 0, rowC l)]) (.exit 0) ([(1, .pp 1 0), (3, .pv (.int .i64 (y)))]) ([(1, 0, .pv (.int .i64 x)), (1, 1, .ls 0 l.length), (0, 0, rowC l)])) (h1 : decide (y < x) = false) :
    FnL Try.prog 51 1 [crtS 0 x l] [(0, 0, rowC l)] (.pv (.bool false)) 0 [] :=
  fnl_run 300 [] [.l (.exit 0) ([(1, .pp 1 0), (3, .pv (.int .i64 (-1))), (7, .ls 0 l.length), (8, .pv (.int .i64 (l.length : Int))), (9, .pv (.int .i64 ((0 : Nat) : Int)))]) ([(1, 0, .pv (.int .i64 x)), (1, 1, .ls 0 l.length), (0, 0, rowC l)]) ([(1, .pp 1 0), (3, .pv (.int .i64 (y)))]) ([(1, 0, .pv (.int .i64 x)), (1, 1, .ls 0 l.length), (0, 0, rowC l)]), .t false]
     True.intro (And.intro (reflT (renN []) ([(1, .pp 1 0), (3, .pv (.int .i64 (-1))), (7, .ls 0 l.length), (8, .pv (.int .i64 (l.length : Int))), (9, .pv (.int .i64 ((0 : Nat) : Int)))])) (And.intro (reflH (renN []) ([(1, 0, .pv (.int .i64 x)), (1, 1, .ls 0 l.length), (0, 0, rowC l)])) (And.intro r0 (And.intro h1 True.intro)))) (by kernel_rfl)

set_option maxRecDepth 100000 in
theorem nf_hi {l : List Pt} {x y : Int} (r0 : RunsL Try.prog 1 1 (loopOf Try.prog 51 0) 29 2 ([(1, .pp 1 0), (3, .pv (.int .i64 (-1))), (7, .ls 0 l.length), (8, .pv (.int .i64 (l.length : Int))), (9, .pv (.int .i64 ((0 : Nat) : Int)))]) ([(1, 0, .pv (.int .i64 x)), (1, 1, .ls 0 l.length), (0, 0, rowC l)]) (.exit 0) ([(1, .pp 1 0), (3, .pv (.int .i64 (y)))]) ([(1, 0, .pv (.int .i64 x)), (1, 1, .ls 0 l.length), (0, 0, rowC l)])) (h1 : decide (y < x) = true) (h2 : decide (x ≤ 1000000) = false) :
    FnL Try.prog 51 1 [crtS 0 x l] [(0, 0, rowC l)] (.pv (.bool false)) 0 [] :=
  fnl_run 300 [] [.l (.exit 0) ([(1, .pp 1 0), (3, .pv (.int .i64 (-1))), (7, .ls 0 l.length), (8, .pv (.int .i64 (l.length : Int))), (9, .pv (.int .i64 ((0 : Nat) : Int)))]) ([(1, 0, .pv (.int .i64 x)), (1, 1, .ls 0 l.length), (0, 0, rowC l)]) ([(1, .pp 1 0), (3, .pv (.int .i64 (y)))]) ([(1, 0, .pv (.int .i64 x)), (1, 1, .ls 0 l.length), (0, 0, rowC l)]), .t true, .t false]
     True.intro (And.intro (reflT (renN []) ([(1, .pp 1 0), (3, .pv (.int .i64 (-1))), (7, .ls 0 l.length), (8, .pv (.int .i64 (l.length : Int))), (9, .pv (.int .i64 ((0 : Nat) : Int)))])) (And.intro (reflH (renN []) ([(1, 0, .pv (.int .i64 x)), (1, 1, .ls 0 l.length), (0, 0, rowC l)])) (And.intro r0 (And.intro h1 (And.intro h2 True.intro))))) (by kernel_rfl)

set_option maxRecDepth 100000 in
theorem nf_ok {l : List Pt} {x y : Int} (r0 : RunsL Try.prog 1 1 (loopOf Try.prog 51 0) 29 2 ([(1, .pp 1 0), (3, .pv (.int .i64 (-1))), (7, .ls 0 l.length), (8, .pv (.int .i64 (l.length : Int))), (9, .pv (.int .i64 ((0 : Nat) : Int)))]) ([(1, 0, .pv (.int .i64 x)), (1, 1, .ls 0 l.length), (0, 0, rowC l)]) (.exit 0) ([(1, .pp 1 0), (3, .pv (.int .i64 (y)))]) ([(1, 0, .pv (.int .i64 x)), (1, 1, .ls 0 l.length), (0, 0, rowC l)])) (h1 : decide (y < x) = true) (h2 : decide (x ≤ 1000000) = true) :
    FnL Try.prog 51 1 [crtS 0 x l] [(0, 0, rowC l)] (.pv (.bool true)) 0 [] :=
  fnl_run 300 [] [.l (.exit 0) ([(1, .pp 1 0), (3, .pv (.int .i64 (-1))), (7, .ls 0 l.length), (8, .pv (.int .i64 (l.length : Int))), (9, .pv (.int .i64 ((0 : Nat) : Int)))]) ([(1, 0, .pv (.int .i64 x)), (1, 1, .ls 0 l.length), (0, 0, rowC l)]) ([(1, .pp 1 0), (3, .pv (.int .i64 (y)))]) ([(1, 0, .pv (.int .i64 x)), (1, 1, .ls 0 l.length), (0, 0, rowC l)]), .t true, .t true]
     True.intro (And.intro (reflT (renN []) ([(1, .pp 1 0), (3, .pv (.int .i64 (-1))), (7, .ls 0 l.length), (8, .pv (.int .i64 (l.length : Int))), (9, .pv (.int .i64 ((0 : Nat) : Int)))])) (And.intro (reflH (renN []) ([(1, 0, .pv (.int .i64 x)), (1, 1, .ls 0 l.length), (0, 0, rowC l)])) (And.intro r0 (And.intro h1 (And.intro h2 True.intro))))) (by kernel_rfl)

set_option maxRecDepth 100000 in
theorem cf_bad {l m : List Pt} {k : Nat} {p : Pt} (hk : l[k]? = some p) (hin : 0 ≤ (k : Int) ∧ (k : Int) < (l.length : Int)) (hlt : decide ((k : Int) < (l.length : Int)) = true) (hv : Pure Try.prog 63 #[certV p.a p.b] (.bool false)) : RunsL Try.prog 1 1 (loopOf Try.prog 52 0) 29 2 ([(3, .mp 1), (9, .ls 0 l.length), (10, .pv (.int .i64 (l.length : Int))), (11, .pv (.int .i64 (k : Int)))]) ([(1, 0, .mrow (seenV (m))), (0, 0, rowC l)]) (.ret) ([(2, .pv (.bool false))]) ([]) :=
  RunsL.stop [] 300 [.t true, .r (ptV p), .r (.bool false), .k] (fun h => by cases h)
    (round_of (And.intro hlt (And.intro hin (And.intro (ra_pt hk) (And.intro hv True.intro)))) (by kernel_rfl))

set_option maxRecDepth 100000 in
theorem cf_two {l m : List Pt} {k : Nat} {p : Pt} (hk : l[k]? = some p) (hin : 0 ≤ (k : Int) ∧ (k : Int) < (l.length : Int)) (hlt : decide ((k : Int) < (l.length : Int)) = true) (hv : Pure Try.prog 63 #[certV p.a p.b] (.bool true)) (hL : LookIs Try.prog 116 (seenV m) (certV p.a p.b) false (.bool true)) : RunsL Try.prog 1 1 (loopOf Try.prog 52 0) 29 2 ([(3, .mp 1), (9, .ls 0 l.length), (10, .pv (.int .i64 (l.length : Int))), (11, .pv (.int .i64 (k : Int)))]) ([(1, 0, .mrow (seenV (m))), (0, 0, rowC l)]) (.ret) ([(2, .pv (.bool false))]) ([]) :=
  RunsL.stop [] 300 [.t true, .r (ptV p), .r (.bool true), .k, .r (.bool true)] (fun h => by cases h)
    (round_of (And.intro hlt (And.intro hin (And.intro (ra_pt hk) (And.intro hv (And.intro hL True.intro))))) (by kernel_rfl))

set_option maxRecDepth 100000 in
theorem cf_next {l m : List Pt} {k : Nat} {p : Pt} (hk : l[k]? = some p) (hin : 0 ≤ (k : Int) ∧ (k : Int) < (l.length : Int)) (hlt : decide ((k : Int) < (l.length : Int)) = true) (hv : Pure Try.prog 63 #[certV p.a p.b] (.bool true)) (hL : LookIs Try.prog 116 (seenV m) (certV p.a p.b) false (.bool false)) (hP : PutIs Try.prog 116 (seenV m) (certV p.a p.b) (.bool true) (seenV (m ++ [p]))) (hs : Value.int .i64 (IntKind.i64.wrap ((k : Int) + 1)) = .int .i64 (((k + 1 : Nat) : Int))) {e : Exit} {tm2 : List (Nat × SV)} {hp2 : List (Nat × Nat × SV)}
    (r : RunsL Try.prog 1 1 (loopOf Try.prog 52 0) 29 2 ([(3, .mp 1), (9, .ls 0 l.length), (10, .pv (.int .i64 (l.length : Int))), (11, .pv (.int .i64 ((k + 1 : Nat) : Int)))]) ([(1, 0, .mrow (seenV (m ++ [p]))), (0, 0, rowC l)]) e tm2 hp2) : RunsL Try.prog 1 1 (loopOf Try.prog 52 0) 29 2 ([(3, .mp 1), (9, .ls 0 l.length), (10, .pv (.int .i64 (l.length : Int))), (11, .pv (.int .i64 (k : Int)))]) ([(1, 0, .mrow (seenV (m))), (0, 0, rowC l)]) e tm2 hp2 :=
  RunsL.next [] 300 [.t true, .r (ptV p), .r (.bool true), .k, .r (.bool false), .w (seenV (m ++ [p])), .r (.int .i64 (((k + 1 : Nat) : Int)))]
    (round_of (And.intro hlt (And.intro hin (And.intro (ra_pt hk) (And.intro hv (And.intro hL (And.intro hP (And.intro hs True.intro))))))) (by kernel_rfl)) r

set_option maxRecDepth 100000 in
theorem cf_end {l m : List Pt} {k : Nat} (hge : decide ((k : Int) < (l.length : Int)) = false) : RunsL Try.prog 1 1 (loopOf Try.prog 52 0) 29 2 ([(3, .mp 1), (9, .ls 0 l.length), (10, .pv (.int .i64 (l.length : Int))), (11, .pv (.int .i64 (k : Int)))]) ([(1, 0, .mrow (seenV (m))), (0, 0, rowC l)]) (.exit 0) ([]) ([]) :=
  RunsL.stop [] 300 [.t false] (fun h => by cases h)
    (round_of (And.intro hge True.intro) (by kernel_rfl))

set_option maxRecDepth 100000 in
theorem cf_no {l : List Pt} (r0 : RunsL Try.prog 1 1 (loopOf Try.prog 52 0) 29 2 ([(3, .mp 1), (9, .ls 0 l.length), (10, .pv (.int .i64 (l.length : Int))), (11, .pv (.int .i64 ((0 : Nat) : Int)))]) ([(1, 0, .mrow (seenV ([]))), (0, 0, rowC l)]) (.ret) ([(2, .pv (.bool false))]) ([])) :
    FnL Try.prog 52 1 [.ls 0 l.length] [(0, 0, rowC l)] (.pv (.bool false)) 0 [] :=
  fnl_run 300 [] [.l (.ret) ([(3, .mp 1), (9, .ls 0 l.length), (10, .pv (.int .i64 (l.length : Int))), (11, .pv (.int .i64 ((0 : Nat) : Int)))]) ([(1, 0, .mrow (seenV ([]))), (0, 0, rowC l)]) ([(2, .pv (.bool false))]) ([])]
     True.intro (And.intro (reflT (renN []) ([(3, .mp 1), (9, .ls 0 l.length), (10, .pv (.int .i64 (l.length : Int))), (11, .pv (.int .i64 ((0 : Nat) : Int)))])) (And.intro (reflH (renN []) ([(1, 0, .mrow (seenV ([]))), (0, 0, rowC l)])) (And.intro r0 True.intro))) (by kernel_rfl)

set_option maxRecDepth 100000 in
theorem cf_ok {l : List Pt} (r0 : RunsL Try.prog 1 1 (loopOf Try.prog 52 0) 29 2 ([(3, .mp 1), (9, .ls 0 l.length), (10, .pv (.int .i64 (l.length : Int))), (11, .pv (.int .i64 ((0 : Nat) : Int)))]) ([(1, 0, .mrow (seenV ([]))), (0, 0, rowC l)]) (.exit 0) ([]) ([])) :
    FnL Try.prog 52 1 [.ls 0 l.length] [(0, 0, rowC l)] (.pv (.bool true)) 0 [] :=
  fnl_run 300 [] [.l (.exit 0) ([(3, .mp 1), (9, .ls 0 l.length), (10, .pv (.int .i64 (l.length : Int))), (11, .pv (.int .i64 ((0 : Nat) : Int)))]) ([(1, 0, .mrow (seenV ([]))), (0, 0, rowC l)]) ([]) ([])]
     True.intro (And.intro (reflT (renN []) ([(3, .mp 1), (9, .ls 0 l.length), (10, .pv (.int .i64 (l.length : Int))), (11, .pv (.int .i64 ((0 : Nat) : Int)))])) (And.intro (reflH (renN []) ([(1, 0, .mrow (seenV ([]))), (0, 0, rowC l)])) (And.intro r0 True.intro))) (by kernel_rfl)

set_option maxRecDepth 100000 in
theorem ck8_many {l : List Pt} {x : Int} (h2 : decide ((l.length : Int) > 200) = true) :
    FnL Try.prog 16 1 [crtS 0 x l] [(0, 0, rowC l)] (.pv (.int .i64 (8))) 0 [] :=
  fnl_run 300 [] [.t true]
     True.intro (And.intro h2 True.intro) (by kernel_rfl)

set_option maxRecDepth 100000 in
theorem ck8_num {l : List Pt} {x : Int} (h2 : decide ((l.length : Int) > 200) = false) (hn : FnL Try.prog 51 1 [crtS 0 x l] [(0, 0, rowC l)] (.pv (.bool false)) 0 []) :
    FnL Try.prog 16 1 [crtS 0 x l] [(0, 0, rowC l)] (.pv (.int .i64 (8))) 0 [] :=
  fnl_run 300 [] [.t false, .f [0] [crtS 0 x l] [(0, 0, rowC l)] (.pv (.bool false)) 0 [], .k]
     True.intro (And.intro h2 (And.intro hn (And.intro (Eq.refl (List.map (SV.ren (renU [0] 2)) [crtS 0 x l])) (And.intro (reflH (renU [0] 2) [(0, 0, rowC l)]) True.intro)))) (by kernel_rfl)

set_option maxRecDepth 100000 in
theorem ck8_cer {l : List Pt} {x : Int} (h2 : decide ((l.length : Int) > 200) = false) (hn : FnL Try.prog 51 1 [crtS 0 x l] [(0, 0, rowC l)] (.pv (.bool true)) 0 []) (hc : FnL Try.prog 52 1 [.ls 0 l.length] [(0, 0, rowC l)] (.pv (.bool false)) 0 []) :
    FnL Try.prog 16 1 [crtS 0 x l] [(0, 0, rowC l)] (.pv (.int .i64 (8))) 0 [] :=
  fnl_run 300 [] [.t false, .f [0] [crtS 0 x l] [(0, 0, rowC l)] (.pv (.bool true)) 0 [], .k, .f [0] [.ls 0 l.length] [(0, 0, rowC l)] (.pv (.bool false)) 0 [], .k]
     True.intro (And.intro h2 (And.intro hn (And.intro (Eq.refl (List.map (SV.ren (renU [0] 2)) [crtS 0 x l])) (And.intro (reflH (renU [0] 2) [(0, 0, rowC l)]) (And.intro hc (And.intro (Eq.refl (List.map (SV.ren (renU [0] 2)) [.ls 0 l.length])) (And.intro (reflH (renU [0] 2) [(0, 0, rowC l)]) True.intro))))))) (by kernel_rfl)

set_option maxRecDepth 100000 in
theorem ck8_ok {l : List Pt} {x : Int} (h2 : decide ((l.length : Int) > 200) = false) (hn : FnL Try.prog 51 1 [crtS 0 x l] [(0, 0, rowC l)] (.pv (.bool true)) 0 []) (hc : FnL Try.prog 52 1 [.ls 0 l.length] [(0, 0, rowC l)] (.pv (.bool true)) 0 []) :
    FnL Try.prog 16 1 [crtS 0 x l] [(0, 0, rowC l)] (.pv (.int .i64 (0))) 0 [] :=
  fnl_run 300 [] [.t false, .f [0] [crtS 0 x l] [(0, 0, rowC l)] (.pv (.bool true)) 0 [], .k, .f [0] [.ls 0 l.length] [(0, 0, rowC l)] (.pv (.bool true)) 0 [], .k]
     True.intro (And.intro h2 (And.intro hn (And.intro (Eq.refl (List.map (SV.ren (renU [0] 2)) [crtS 0 x l])) (And.intro (reflH (renU [0] 2) [(0, 0, rowC l)]) (And.intro hc (And.intro (Eq.refl (List.map (SV.ren (renU [0] 2)) [.ls 0 l.length])) (And.intro (reflH (renU [0] 2) [(0, 0, rowC l)]) True.intro))))))) (by kernel_rfl)

end Go.Proofs.Ytjjmnoiffpnphaa
