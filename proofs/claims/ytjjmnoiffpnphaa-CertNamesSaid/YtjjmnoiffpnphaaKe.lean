/-
  The reference of package cert, path by path. Conditions: none.
-/
import Derived.Test.YtjjmnoiffpnphaaW31
namespace Go.Proofs.Ytjjmnoiffpnphaa
open Go.RowKit
theorem twin_xC (x : Int) (l : List Pt) : SV.ag [.pv (.int .i64 x), .ls 4 (0 + l.length)] = (SV.ag [.pv (.int .i64 x), .ls 1 l.length]).ren (renN [(1, 4)]) := by rw [Nat.zero_add]; rfl
theorem twin_rowC (l : List Pt) : some (SV.row 28 3 (0 + l.length) ([] ++ ptsV l)) = some (rowC l) := by rw [Nat.zero_add, List.nil_append]
theorem snoc_rowC (m : List Pt) (p : Pt) : some (SV.row 28 3 (m.length + 1) (ptsV m ++ [.int .i64 p.id, .int .i64 p.a, .int .i64 p.b])) = some (rowC (m ++ [p])) := by rw [snoc_pts, rowC, List.length_append]; rfl
theorem snoc_tuC (b : Nat) (y x : Int) (m : List Pt) (p : Pt) : SV.tu [.ag [.pv (.int .i64 y), .ls b (m.length + 1)], .one (.pv (.int .i64 x)), .one (.pv (.int .i64 0))] = (SV.tu [.ag [.pv (.int .i64 y), .ls 1 (m ++ [p]).length], .one (.pv (.int .i64 x)), .one (.pv (.int .i64 0))]).ren (renN [(1, b)]) := by rw [List.length_append]; rfl
set_option maxRecDepth 100000 in
theorem tw8_path {l : List Pt} {x : Int} (hn : 0 + l.length ≤ 1000000) :
    FnL Try.prog 9 1 [crtS 0 x l] [(0, 0, rowC l)] (.ag [.pv (.int .i64 x), .ls 1 l.length]) 1 [(1, 0, rowC l)] :=
  fnl_runX 300 [(1, 4)] [.md]
    (twin_xC x l) (And.intro (twin_rowC l) True.intro) (And.intro hn True.intro) (by kernel_rfl)

set_option maxRecDepth 100000 in
theorem at8_next {l : List Pt} {k : Nat} {p : Pt} {x n : Int} (hk : l[k]? = some p) (hin : 0 ≤ (k : Int) ∧ (k : Int) < (l.length : Int)) (hlt : decide ((k : Int) < (l.length : Int)) = true) (he : (p.id == n) = false) (hs : Value.int .i64 (IntKind.i64.wrap ((k : Int) + 1)) = .int .i64 (((k + 1 : Nat) : Int))) {e : Exit} {tm2 : List (Nat × SV)} {hp2 : List (Nat × Nat × SV)}
    (r : RunsL Try.prog 1 1 (loopOf Try.prog 54 0) 22 2 ([(1, .pv (.int .i64 n)), (2, .pp 1 0), (5, .pv (.int .i64 ((k + 1 : Nat) : Int)))]) ([(1, 0, .pv (.int .i64 x)), (1, 1, .ls 0 l.length), (0, 0, rowC l)]) e tm2 hp2) : RunsL Try.prog 1 1 (loopOf Try.prog 54 0) 22 2 ([(1, .pv (.int .i64 n)), (2, .pp 1 0), (5, .pv (.int .i64 (k : Int)))]) ([(1, 0, .pv (.int .i64 x)), (1, 1, .ls 0 l.length), (0, 0, rowC l)]) e tm2 hp2 :=
  RunsL.next [] 300 [.t true, .r (Value.int .i64 p.id), .t false, .r (.int .i64 (((k + 1 : Nat) : Int)))]
    (round_of (And.intro hlt (And.intro hin (And.intro (ra_id hk) (And.intro he (And.intro hs True.intro))))) (by kernel_rfl)) r

set_option maxRecDepth 100000 in
theorem at8_hit {l : List Pt} {k : Nat} {p : Pt} {x n : Int} (hk : l[k]? = some p) (hin : 0 ≤ (k : Int) ∧ (k : Int) < (l.length : Int)) (hlt : decide ((k : Int) < (l.length : Int)) = true) (he : (p.id == n) = true) : RunsL Try.prog 1 1 (loopOf Try.prog 54 0) 22 2 ([(1, .pv (.int .i64 n)), (2, .pp 1 0), (5, .pv (.int .i64 (k : Int)))]) ([(1, 0, .pv (.int .i64 x)), (1, 1, .ls 0 l.length), (0, 0, rowC l)]) (.ret) ([(4, .pv (.int .i64 (k : Int)))]) ([]) :=
  RunsL.stop [] 300 [.t true, .r (Value.int .i64 p.id), .t true] (fun h => by cases h)
    (round_of (And.intro hlt (And.intro hin (And.intro (ra_id hk) (And.intro he True.intro)))) (by kernel_rfl))

set_option maxRecDepth 100000 in
theorem at8_end {l : List Pt} {k : Nat} {x n : Int} (hge : decide ((k : Int) < (l.length : Int)) = false) : RunsL Try.prog 1 1 (loopOf Try.prog 54 0) 22 2 ([(1, .pv (.int .i64 n)), (2, .pp 1 0), (5, .pv (.int .i64 (k : Int)))]) ([(1, 0, .pv (.int .i64 x)), (1, 1, .ls 0 l.length), (0, 0, rowC l)]) (.exit 0) ([]) ([]) :=
  RunsL.stop [] 300 [.t false] (fun h => by cases h)
    (round_of (And.intro hge True.intro) (by kernel_rfl))

set_option maxRecDepth 100000 in
theorem at8_no {l : List Pt} {x n : Int} (r0 : RunsL Try.prog 1 1 (loopOf Try.prog 54 0) 22 2 ([(1, .pv (.int .i64 n)), (2, .pp 1 0), (5, .pv (.int .i64 ((0 : Nat) : Int)))]) ([(1, 0, .pv (.int .i64 x)), (1, 1, .ls 0 l.length), (0, 0, rowC l)]) (.exit 0) ([]) ([])) :
    FnL Try.prog 54 1 [crtS 0 x l, .pv (.int .i64 (n))] [(0, 0, rowC l)] (.pv (.int .i64 (-1))) 0 [] :=
  fnl_run 300 [] [.l (.exit 0) ([(1, .pv (.int .i64 n)), (2, .pp 1 0), (5, .pv (.int .i64 ((0 : Nat) : Int)))]) ([(1, 0, .pv (.int .i64 x)), (1, 1, .ls 0 l.length), (0, 0, rowC l)]) ([]) ([])]
     True.intro (And.intro (reflT (renN []) ([(1, .pv (.int .i64 n)), (2, .pp 1 0), (5, .pv (.int .i64 ((0 : Nat) : Int)))])) (And.intro (reflH (renN []) ([(1, 0, .pv (.int .i64 x)), (1, 1, .ls 0 l.length), (0, 0, rowC l)])) (And.intro r0 True.intro))) (by kernel_rfl)

set_option maxRecDepth 100000 in
theorem at8_yes {l : List Pt} {k : Nat} {x n : Int} (r0 : RunsL Try.prog 1 1 (loopOf Try.prog 54 0) 22 2 ([(1, .pv (.int .i64 n)), (2, .pp 1 0), (5, .pv (.int .i64 ((0 : Nat) : Int)))]) ([(1, 0, .pv (.int .i64 x)), (1, 1, .ls 0 l.length), (0, 0, rowC l)]) (.ret) ([(4, .pv (.int .i64 (k : Int)))]) ([])) :
    FnL Try.prog 54 1 [crtS 0 x l, .pv (.int .i64 (n))] [(0, 0, rowC l)] (.pv (.int .i64 ((k : Int)))) 0 [] :=
  fnl_run 300 [] [.l (.ret) ([(1, .pv (.int .i64 n)), (2, .pp 1 0), (5, .pv (.int .i64 ((0 : Nat) : Int)))]) ([(1, 0, .pv (.int .i64 x)), (1, 1, .ls 0 l.length), (0, 0, rowC l)]) ([(4, .pv (.int .i64 (k : Int)))]) ([])]
     True.intro (And.intro (reflT (renN []) ([(1, .pv (.int .i64 n)), (2, .pp 1 0), (5, .pv (.int .i64 ((0 : Nat) : Int)))])) (And.intro (reflH (renN []) ([(1, 0, .pv (.int .i64 x)), (1, 1, .ls 0 l.length), (0, 0, rowC l)])) (And.intro r0 True.intro))) (by kernel_rfl)

set_option maxRecDepth 100000 in
theorem hs8_next {l : List Pt} {k : Nat} {p : Pt} {x a b : Int} (hk : l[k]? = some p) (hin : 0 ≤ (k : Int) ∧ (k : Int) < (l.length : Int)) (hlt : decide ((k : Int) < (l.length : Int)) = true) (he : (p.a == a && (p.b == b && true)) = false) (hs : Value.int .i64 (IntKind.i64.wrap ((k : Int) + 1)) = .int .i64 (((k + 1 : Nat) : Int))) {e : Exit} {tm2 : List (Nat × SV)} {hp2 : List (Nat × Nat × SV)}
    (r : RunsL Try.prog 1 1 (loopOf Try.prog 35 0) 21 3 ([(2, .pp 1 0), (3, .pp 2 0), (5, .pv (.int .i64 ((k + 1 : Nat) : Int)))]) ([(1, 0, .pv (.int .i64 x)), (1, 1, .ls 0 l.length), (2, 0, .pv (.int .i64 a)), (2, 1, .pv (.int .i64 b)), (0, 0, rowC l)]) e tm2 hp2) : RunsL Try.prog 1 1 (loopOf Try.prog 35 0) 21 3 ([(2, .pp 1 0), (3, .pp 2 0), (5, .pv (.int .i64 (k : Int)))]) ([(1, 0, .pv (.int .i64 x)), (1, 1, .ls 0 l.length), (2, 0, .pv (.int .i64 a)), (2, 1, .pv (.int .i64 b)), (0, 0, rowC l)]) e tm2 hp2 :=
  RunsL.next [] 300 [.t true, .r (certV p.a p.b), .t false, .r (.int .i64 (((k + 1 : Nat) : Int)))]
    (round_of (And.intro hlt (And.intro hin (And.intro (ra_ce hk) (And.intro he (And.intro hs True.intro))))) (by kernel_rfl)) r

set_option maxRecDepth 100000 in
theorem hs8_hit {l : List Pt} {k : Nat} {p : Pt} {x a b : Int} (hk : l[k]? = some p) (hin : 0 ≤ (k : Int) ∧ (k : Int) < (l.length : Int)) (hlt : decide ((k : Int) < (l.length : Int)) = true) (he : (p.a == a && (p.b == b && true)) = true) : RunsL Try.prog 1 1 (loopOf Try.prog 35 0) 21 3 ([(2, .pp 1 0), (3, .pp 2 0), (5, .pv (.int .i64 (k : Int)))]) ([(1, 0, .pv (.int .i64 x)), (1, 1, .ls 0 l.length), (2, 0, .pv (.int .i64 a)), (2, 1, .pv (.int .i64 b)), (0, 0, rowC l)]) (.ret) ([(4, .pv (.bool true))]) ([]) :=
  RunsL.stop [] 300 [.t true, .r (certV p.a p.b), .t true] (fun h => by cases h)
    (round_of (And.intro hlt (And.intro hin (And.intro (ra_ce hk) (And.intro he True.intro)))) (by kernel_rfl))

set_option maxRecDepth 100000 in
theorem hs8_end {l : List Pt} {k : Nat} {x a b : Int} (hge : decide ((k : Int) < (l.length : Int)) = false) : RunsL Try.prog 1 1 (loopOf Try.prog 35 0) 21 3 ([(2, .pp 1 0), (3, .pp 2 0), (5, .pv (.int .i64 (k : Int)))]) ([(1, 0, .pv (.int .i64 x)), (1, 1, .ls 0 l.length), (2, 0, .pv (.int .i64 a)), (2, 1, .pv (.int .i64 b)), (0, 0, rowC l)]) (.exit 0) ([]) ([]) :=
  RunsL.stop [] 300 [.t false] (fun h => by cases h)
    (round_of (And.intro hge True.intro) (by kernel_rfl))

set_option maxRecDepth 100000 in
theorem hs8_no {l : List Pt} {x a b : Int} (r0 : RunsL Try.prog 1 1 (loopOf Try.prog 35 0) 21 3 ([(2, .pp 1 0), (3, .pp 2 0), (5, .pv (.int .i64 ((0 : Nat) : Int)))]) ([(1, 0, .pv (.int .i64 x)), (1, 1, .ls 0 l.length), (2, 0, .pv (.int .i64 a)), (2, 1, .pv (.int .i64 b)), (0, 0, rowC l)]) (.exit 0) ([]) ([])) :
    FnL Try.prog 35 1 [crtS 0 x l, .pv (certV a b)] [(0, 0, rowC l)] (.pv (.bool false)) 0 [] :=
  fnl_run 300 [] [.l (.exit 0) ([(2, .pp 1 0), (3, .pp 2 0), (5, .pv (.int .i64 ((0 : Nat) : Int)))]) ([(1, 0, .pv (.int .i64 x)), (1, 1, .ls 0 l.length), (2, 0, .pv (.int .i64 a)), (2, 1, .pv (.int .i64 b)), (0, 0, rowC l)]) ([]) ([])]
     True.intro (And.intro (reflT (renN []) ([(2, .pp 1 0), (3, .pp 2 0), (5, .pv (.int .i64 ((0 : Nat) : Int)))])) (And.intro (reflH (renN []) ([(1, 0, .pv (.int .i64 x)), (1, 1, .ls 0 l.length), (2, 0, .pv (.int .i64 a)), (2, 1, .pv (.int .i64 b)), (0, 0, rowC l)])) (And.intro r0 True.intro))) (by kernel_rfl)

set_option maxRecDepth 100000 in
theorem hs8_yes {l : List Pt} {x a b : Int} (r0 : RunsL Try.prog 1 1 (loopOf Try.prog 35 0) 21 3 ([(2, .pp 1 0), (3, .pp 2 0), (5, .pv (.int .i64 ((0 : Nat) : Int)))]) ([(1, 0, .pv (.int .i64 x)), (1, 1, .ls 0 l.length), (2, 0, .pv (.int .i64 a)), (2, 1, .pv (.int .i64 b)), (0, 0, rowC l)]) (.ret) ([(4, .pv (.bool true))]) ([])) :
    FnL Try.prog 35 1 [crtS 0 x l, .pv (certV a b)] [(0, 0, rowC l)] (.pv (.bool true)) 0 [] :=
  fnl_run 300 [] [.l (.ret) ([(2, .pp 1 0), (3, .pp 2 0), (5, .pv (.int .i64 ((0 : Nat) : Int)))]) ([(1, 0, .pv (.int .i64 x)), (1, 1, .ls 0 l.length), (2, 0, .pv (.int .i64 a)), (2, 1, .pv (.int .i64 b)), (0, 0, rowC l)]) ([(4, .pv (.bool true))]) ([])]
     True.intro (And.intro (reflT (renN []) ([(2, .pp 1 0), (3, .pp 2 0), (5, .pv (.int .i64 ((0 : Nat) : Int)))])) (And.intro (reflH (renN []) ([(1, 0, .pv (.int .i64 x)), (1, 1, .ls 0 l.length), (2, 0, .pv (.int .i64 a)), (2, 1, .pv (.int .i64 b)), (0, 0, rowC l)])) (And.intro r0 True.intro))) (by kernel_rfl)

set_option maxRecDepth 100000 in
theorem wo8_skip {l m : List Pt} {k : Nat} {p : Pt} {x n : Int} (hk : l[k]? = some p) (hin : 0 ≤ (k : Int) ∧ (k : Int) < (l.length : Int)) (hlt : decide ((k : Int) < (l.length : Int)) = true) (hne : (p.id != n) = false) (hs : Value.int .i64 (IntKind.i64.wrap ((k : Int) + 1)) = .int .i64 (((k + 1 : Nat) : Int))) {e : Exit} {tm2 : List (Nat × SV)} {hp2 : List (Nat × Nat × SV)}
    (r : RunsL Try.prog 1 1 (loopOf Try.prog 53 0) 36 5 ([(1, .pv (.int .i64 n)), (2, .pp 1 0), (4, .pp 2 0), (5, .pp 3 0), (6, .pv (.int .i64 ((k + 1 : Nat) : Int)))]) ([(1, 0, .pv (.int .i64 x)), (1, 1, .ls 0 l.length), (0, 0, rowC l), (3, 0, .pv (.int .i64 x)), (3, 1, .ls 4 (m).length), (4, 0, rowC (m)), (2, 0, .pv (.int .i64 0)), (2, 1, .pv (.slice none 0 0))]) e tm2 hp2) : RunsL Try.prog 1 1 (loopOf Try.prog 53 0) 36 5 ([(1, .pv (.int .i64 n)), (2, .pp 1 0), (4, .pp 2 0), (5, .pp 3 0), (6, .pv (.int .i64 (k : Int)))]) ([(1, 0, .pv (.int .i64 x)), (1, 1, .ls 0 l.length), (0, 0, rowC l), (3, 0, .pv (.int .i64 x)), (3, 1, .ls 4 (m).length), (4, 0, rowC (m)), (2, 0, .pv (.int .i64 0)), (2, 1, .pv (.slice none 0 0))]) e tm2 hp2 :=
  RunsL.next [] 300 [.t true, .r (Value.int .i64 p.id), .t false, .r (.int .i64 (((k + 1 : Nat) : Int)))]
    (round_of (And.intro hlt (And.intro hin (And.intro (ra_id hk) (And.intro hne (And.intro hs True.intro))))) (by kernel_rfl)) r

set_option maxRecDepth 100000 in
theorem wo8_keep {l m : List Pt} {k : Nat} {p : Pt} {x n : Int} (hk : l[k]? = some p) (hin : 0 ≤ (k : Int) ∧ (k : Int) < (l.length : Int)) (hlt : decide ((k : Int) < (l.length : Int)) = true) (hne : (p.id != n) = true) (hm : m.length + 1 ≤ 1000000) (hs : Value.int .i64 (IntKind.i64.wrap ((k : Int) + 1)) = .int .i64 (((k + 1 : Nat) : Int))) {e : Exit} {tm2 : List (Nat × SV)} {hp2 : List (Nat × Nat × SV)}
    (r : RunsL Try.prog 1 1 (loopOf Try.prog 53 0) 36 5 ([(1, .pv (.int .i64 n)), (2, .pp 1 0), (4, .pp 2 0), (5, .pp 3 0), (6, .pv (.int .i64 ((k + 1 : Nat) : Int)))]) ([(1, 0, .pv (.int .i64 x)), (1, 1, .ls 0 l.length), (0, 0, rowC l), (3, 0, .pv (.int .i64 x)), (3, 1, .ls 4 (m ++ [p]).length), (4, 0, rowC (m ++ [p])), (2, 0, .pv (.int .i64 0)), (2, 1, .pv (.slice none 0 0))]) e tm2 hp2) : RunsL Try.prog 1 1 (loopOf Try.prog 53 0) 36 5 ([(1, .pv (.int .i64 n)), (2, .pp 1 0), (4, .pp 2 0), (5, .pp 3 0), (6, .pv (.int .i64 (k : Int)))]) ([(1, 0, .pv (.int .i64 x)), (1, 1, .ls 0 l.length), (0, 0, rowC l), (3, 0, .pv (.int .i64 x)), (3, 1, .ls 4 (m).length), (4, 0, rowC (m)), (2, 0, .pv (.int .i64 0)), (2, 1, .pv (.slice none 0 0))]) e tm2 hp2 :=
  RunsL.next [(4, 6)] 300 [.t true, .r (Value.int .i64 p.id), .t true, .r (ptV p), .r (.int .i64 (((k + 1 : Nat) : Int)))]
    (round_ofH (And.intro (Eq.refl (some (SV.pv (.int .i64 x)))) (And.intro (Eq.refl (some (SV.ls 0 l.length))) (And.intro (Eq.refl (some (rowC l))) (And.intro (Eq.refl (some (SV.pv (.int .i64 x)))) (And.intro (snoc_ls 6 m p) (And.intro (snoc_rowC m p) (And.intro (Eq.refl (some (SV.pv (.int .i64 0)))) (And.intro (Eq.refl (some (SV.pv (.slice none 0 0)))) True.intro)))))))) (And.intro hlt (And.intro hin (And.intro (ra_id hk) (And.intro hne (And.intro hin (And.intro (ra_pt hk) (And.intro hm (And.intro hs True.intro)))))))) (by kernel_rfl)) r

set_option maxRecDepth 100000 in
theorem wo8_end {l m : List Pt} {k : Nat} {x n : Int} (hge : decide ((k : Int) < (l.length : Int)) = false) : RunsL Try.prog 1 1 (loopOf Try.prog 53 0) 36 5 ([(1, .pv (.int .i64 n)), (2, .pp 1 0), (4, .pp 2 0), (5, .pp 3 0), (6, .pv (.int .i64 (k : Int)))]) ([(1, 0, .pv (.int .i64 x)), (1, 1, .ls 0 l.length), (0, 0, rowC l), (3, 0, .pv (.int .i64 x)), (3, 1, .ls 4 (m).length), (4, 0, rowC (m)), (2, 0, .pv (.int .i64 0)), (2, 1, .pv (.slice none 0 0))]) (.exit 0) ([(4, .pp 2 0), (5, .pp 3 0)]) ([(1, 0, .pv (.int .i64 x)), (1, 1, .ls 0 l.length), (0, 0, rowC l), (3, 0, .pv (.int .i64 x)), (3, 1, .ls 4 (m).length), (4, 0, rowC (m)), (2, 0, .pv (.int .i64 0)), (2, 1, .pv (.slice none 0 0))]) :=
  RunsL.stop [] 300 [.t false] (fun h => by cases h)
    (round_of (And.intro hge True.intro) (by kernel_rfl))

set_option maxRecDepth 100000 in
theorem wo8_path {l m : List Pt} {x n : Int} (r0 : RunsL Try.prog 1 1 (loopOf Try.prog 53 0) 36 5 ([(1, .pv (.int .i64 n)), (2, .pp 1 0), (4, .pp 2 0), (5, .pp 3 0), (6, .pv (.int .i64 ((0 : Nat) : Int)))]) ([(1, 0, .pv (.int .i64 x)), (1, 1, .ls 0 l.length), (0, 0, rowC l), (3, 0, .pv (.int .i64 x)), (3, 1, .ls 4 (([] : List Pt)).length), (4, 0, rowC (([] : List Pt))), (2, 0, .pv (.int .i64 0)), (2, 1, .pv (.slice none 0 0))]) (.exit 0) ([(4, .pp 2 0), (5, .pp 3 0)]) ([(1, 0, .pv (.int .i64 x)), (1, 1, .ls 0 l.length), (0, 0, rowC l), (3, 0, .pv (.int .i64 x)), (3, 1, .ls 4 (m).length), (4, 0, rowC (m)), (2, 0, .pv (.int .i64 0)), (2, 1, .pv (.slice none 0 0))])) :
    FnL Try.prog 53 1 [crtS 0 x l, .pv (.int .i64 (n))] [(0, 0, rowC l)] (.ag [.pv (.int .i64 x), .ls 1 m.length]) 1 [(1, 0, rowC m)] :=
  fnl_run 300 [(1, 4)] [.ln false 3 1 28 3, .l (.exit 0) ([(1, .pv (.int .i64 n)), (2, .pp 1 0), (4, .pp 2 0), (5, .pp 3 0), (6, .pv (.int .i64 ((0 : Nat) : Int)))]) ([(1, 0, .pv (.int .i64 x)), (1, 1, .ls 0 l.length), (0, 0, rowC l), (3, 0, .pv (.int .i64 x)), (3, 1, .ls 4 (([] : List Pt)).length), (4, 0, rowC (([] : List Pt))), (2, 0, .pv (.int .i64 0)), (2, 1, .pv (.slice none 0 0))]) ([(4, .pp 2 0), (5, .pp 3 0)]) ([(1, 0, .pv (.int .i64 x)), (1, 1, .ls 0 l.length), (0, 0, rowC l), (3, 0, .pv (.int .i64 x)), (3, 1, .ls 4 (m).length), (4, 0, rowC (m)), (2, 0, .pv (.int .i64 0)), (2, 1, .pv (.slice none 0 0))])]
     (reflH (renN [(1, 4)]) [(1, 0, rowC m)]) (And.intro (reflT (renN []) ([(1, .pv (.int .i64 n)), (2, .pp 1 0), (4, .pp 2 0), (5, .pp 3 0), (6, .pv (.int .i64 ((0 : Nat) : Int)))])) (And.intro (reflH (renN []) ([(1, 0, .pv (.int .i64 x)), (1, 1, .ls 0 l.length), (0, 0, rowC l), (3, 0, .pv (.int .i64 x)), (3, 1, .ls 4 (([] : List Pt)).length), (4, 0, rowC (([] : List Pt))), (2, 0, .pv (.int .i64 0)), (2, 1, .pv (.slice none 0 0))])) (And.intro r0 True.intro))) (by kernel_rfl)

set_option maxRecDepth 100000 in
theorem rg8_bad {l : List Pt} {x n : Int} (hc : FnL Try.prog 24 1 [crtS 0 x l] [(0, 0, rowC l)] (.pv (.int .i64 (8))) 0 []) :
    FnL Try.prog 22 1 [crtS 0 x l, .pv (.int .i64 (n))] [(0, 0, rowC l)] (.pv (.tuple #[certV 0 0, .int .i64 8])) 0 [] :=
  fnl_run 300 [] [.f [0] [crtS 0 x l] [(0, 0, rowC l)] (.pv (.int .i64 (8))) 0 [], .k]
     True.intro (And.intro hc (And.intro (Eq.refl (List.map (SV.ren (renU [0] 3)) [crtS 0 x l])) (And.intro (reflH (renU [0] 3) [(0, 0, rowC l)]) True.intro))) (by kernel_rfl)

set_option maxRecDepth 100000 in
theorem rg8_no {l : List Pt} {x n : Int} (hc : FnL Try.prog 24 1 [crtS 0 x l] [(0, 0, rowC l)] (.pv (.int .i64 (0))) 0 []) (ha : FnL Try.prog 54 1 [crtS 0 x l, .pv (.int .i64 (n))] [(0, 0, rowC l)] (.pv (.int .i64 (-1))) 0 []) :
    FnL Try.prog 22 1 [crtS 0 x l, .pv (.int .i64 (n))] [(0, 0, rowC l)] (.pv (.tuple #[certV 0 0, .int .i64 6])) 0 [] :=
  fnl_run 300 [] [.f [0] [crtS 0 x l] [(0, 0, rowC l)] (.pv (.int .i64 (0))) 0 [], .k, .f [0] [crtS 0 x l, .pv (.int .i64 (n))] [(0, 0, rowC l)] (.pv (.int .i64 (-1))) 0 [], .k]
     True.intro (And.intro hc (And.intro (Eq.refl (List.map (SV.ren (renU [0] 3)) [crtS 0 x l])) (And.intro (reflH (renU [0] 3) [(0, 0, rowC l)]) (And.intro ha (And.intro (Eq.refl (List.map (SV.ren (renU [0] 3)) [crtS 0 x l, .pv (.int .i64 (n))])) (And.intro (reflH (renU [0] 3) [(0, 0, rowC l)]) True.intro)))))) (by kernel_rfl)

set_option maxRecDepth 100000 in
theorem rg8_yes {l : List Pt} {k : Nat} {p : Pt} {x n : Int} (hk : l[k]? = some p) (hin : 0 ≤ (k : Int) ∧ (k : Int) < (l.length : Int)) (hc : FnL Try.prog 24 1 [crtS 0 x l] [(0, 0, rowC l)] (.pv (.int .i64 (0))) 0 []) (ha : FnL Try.prog 54 1 [crtS 0 x l, .pv (.int .i64 (n))] [(0, 0, rowC l)] (.pv (.int .i64 ((k : Int)))) 0 []) (h0 : decide ((k : Int) < 0) = false) :
    FnL Try.prog 22 1 [crtS 0 x l, .pv (.int .i64 (n))] [(0, 0, rowC l)] (.pv (.tuple #[certV p.a p.b, .int .i64 0])) 0 [] :=
  fnl_run 300 [] [.f [0] [crtS 0 x l] [(0, 0, rowC l)] (.pv (.int .i64 (0))) 0 [], .k, .f [0] [crtS 0 x l, .pv (.int .i64 (n))] [(0, 0, rowC l)] (.pv (.int .i64 ((k : Int)))) 0 [], .t false, .r (certV p.a p.b)]
     True.intro (And.intro hc (And.intro (Eq.refl (List.map (SV.ren (renU [0] 3)) [crtS 0 x l])) (And.intro (reflH (renU [0] 3) [(0, 0, rowC l)]) (And.intro ha (And.intro (Eq.refl (List.map (SV.ren (renU [0] 3)) [crtS 0 x l, .pv (.int .i64 (n))])) (And.intro (reflH (renU [0] 3) [(0, 0, rowC l)]) (And.intro h0 (And.intro hin (And.intro (ra_ce hk) True.intro))))))))) (by kernel_rfl)

set_option maxRecDepth 100000 in
theorem rr8_err {l : List Pt} {x n a b e : Int} (hg : FnL Try.prog 22 1 [crtS 0 x l, .pv (.int .i64 (n))] [(0, 0, rowC l)] (.pv (.tuple #[certV a b, .int .i64 e])) 0 []) (he : (e != 0) = true) :
    FnL Try.prog 21 1 [crtS 0 x l, .pv (.int .i64 (n))] [(0, 0, rowC l)] (.pv (.tuple #[.agg #[.int .i64 0, .slice none 0 0], certV 0 0, .int .i64 e])) 0 [] :=
  fnl_run 300 [] [.f [0] [crtS 0 x l, .pv (.int .i64 (n))] [(0, 0, rowC l)] (.pv (.tuple #[certV a b, .int .i64 e])) 0 [], .t true]
     True.intro (And.intro hg (And.intro (Eq.refl (List.map (SV.ren (renU [0] 4)) [crtS 0 x l, .pv (.int .i64 (n))])) (And.intro (reflH (renU [0] 4) [(0, 0, rowC l)]) (And.intro he True.intro)))) (by kernel_rfl)

set_option maxRecDepth 100000 in
theorem rr8_ok {l m : List Pt} {x n a b : Int} (hg : FnL Try.prog 22 1 [crtS 0 x l, .pv (.int .i64 (n))] [(0, 0, rowC l)] (.pv (.tuple #[certV a b, .int .i64 0])) 0 []) (hw : FnL Try.prog 53 1 [crtS 0 x l, .pv (.int .i64 (n))] [(0, 0, rowC l)] (.ag [.pv (.int .i64 x), .ls 1 m.length]) 1 [(1, 0, rowC m)]) :
    FnL Try.prog 21 1 [crtS 0 x l, .pv (.int .i64 (n))] [(0, 0, rowC l)] (.tu [.ag [.pv (.int .i64 x), .ls 1 m.length], .one (.pv (certV a b)), .one (.pv (.int .i64 0))]) 1 [(1, 0, rowC m)] :=
  fnl_run 300 [(1, 5)] [.f [0] [crtS 0 x l, .pv (.int .i64 (n))] [(0, 0, rowC l)] (.pv (.tuple #[certV a b, .int .i64 0])) 0 [], .k, .md, .f [0] [crtS 0 x l, .pv (.int .i64 (n))] [(0, 0, rowC l)] (.ag [.pv (.int .i64 x), .ls 1 m.length]) 1 [(1, 0, rowC m)]]
     (reflH (renN [(1, 5)]) [(1, 0, rowC m)]) (And.intro hg (And.intro (Eq.refl (List.map (SV.ren (renU [0] 4)) [crtS 0 x l, .pv (.int .i64 (n))])) (And.intro (reflH (renU [0] 4) [(0, 0, rowC l)]) (And.intro hw (And.intro (Eq.refl (List.map (SV.ren (renU [0] 5)) [crtS 0 x l, .pv (.int .i64 (n))])) (And.intro (reflH (renU [0] 5) [(0, 0, rowC l)]) True.intro)))))) (by kernel_rfl)

set_option maxRecDepth 100000 in
theorem ra8_bad {l : List Pt} {x a b : Int} (hc : FnL Try.prog 24 1 [crtS 0 x l] [(0, 0, rowC l)] (.pv (.int .i64 (8))) 0 []) :
    FnL Try.prog 20 1 [crtS 0 x l, .pv (certV a b)] [(0, 0, rowC l)] (.pv (.tuple #[.agg #[.int .i64 0, .slice none 0 0], .int .i64 0, .int .i64 8])) 0 [] :=
  fnl_run 300 [] [.f [0] [crtS 0 x l] [(0, 0, rowC l)] (.pv (.int .i64 (8))) 0 [], .k]
     True.intro (And.intro hc (And.intro (Eq.refl (List.map (SV.ren (renU [0] 4)) [crtS 0 x l])) (And.intro (reflH (renU [0] 4) [(0, 0, rowC l)]) True.intro))) (by kernel_rfl)

set_option maxRecDepth 100000 in
theorem ra8_inv {l : List Pt} {x a b : Int} (hc : FnL Try.prog 24 1 [crtS 0 x l] [(0, 0, rowC l)] (.pv (.int .i64 (0))) 0 []) (hv : Pure Try.prog 34 #[certV a b] (.bool false)) :
    FnL Try.prog 20 1 [crtS 0 x l, .pv (certV a b)] [(0, 0, rowC l)] (.pv (.tuple #[.agg #[.int .i64 0, .slice none 0 0], .int .i64 0, .int .i64 8])) 0 [] :=
  fnl_run 300 [] [.f [0] [crtS 0 x l] [(0, 0, rowC l)] (.pv (.int .i64 (0))) 0 [], .k, .r (.bool false), .k]
     True.intro (And.intro hc (And.intro (Eq.refl (List.map (SV.ren (renU [0] 4)) [crtS 0 x l])) (And.intro (reflH (renU [0] 4) [(0, 0, rowC l)]) (And.intro hv True.intro)))) (by kernel_rfl)

set_option maxRecDepth 100000 in
theorem ra8_two {l : List Pt} {x a b : Int} (hc : FnL Try.prog 24 1 [crtS 0 x l] [(0, 0, rowC l)] (.pv (.int .i64 (0))) 0 []) (hv : Pure Try.prog 34 #[certV a b] (.bool true)) (hh : FnL Try.prog 35 1 [crtS 0 x l, .pv (certV a b)] [(0, 0, rowC l)] (.pv (.bool true)) 0 []) :
    FnL Try.prog 20 1 [crtS 0 x l, .pv (certV a b)] [(0, 0, rowC l)] (.pv (.tuple #[.agg #[.int .i64 0, .slice none 0 0], .int .i64 0, .int .i64 14])) 0 [] :=
  fnl_run 300 [] [.f [0] [crtS 0 x l] [(0, 0, rowC l)] (.pv (.int .i64 (0))) 0 [], .k, .r (.bool true), .k, .f [0] [crtS 0 x l, .pv (certV a b)] [(0, 0, rowC l)] (.pv (.bool true)) 0 []]
     True.intro (And.intro hc (And.intro (Eq.refl (List.map (SV.ren (renU [0] 4)) [crtS 0 x l])) (And.intro (reflH (renU [0] 4) [(0, 0, rowC l)]) (And.intro hv (And.intro hh (And.intro (Eq.refl (List.map (SV.ren (renU [0] 4)) [crtS 0 x l, .pv (certV a b)])) (And.intro (reflH (renU [0] 4) [(0, 0, rowC l)]) True.intro))))))) (by kernel_rfl)

set_option maxRecDepth 100000 in
theorem ra8_full {l : List Pt} {x a b : Int} (hc : FnL Try.prog 24 1 [crtS 0 x l] [(0, 0, rowC l)] (.pv (.int .i64 (0))) 0 []) (hv : Pure Try.prog 34 #[certV a b] (.bool true)) (hh : FnL Try.prog 35 1 [crtS 0 x l, .pv (certV a b)] [(0, 0, rowC l)] (.pv (.bool false)) 0 []) (hf : ((l.length : Int) == 200) = true) :
    FnL Try.prog 20 1 [crtS 0 x l, .pv (certV a b)] [(0, 0, rowC l)] (.pv (.tuple #[.agg #[.int .i64 0, .slice none 0 0], .int .i64 0, .int .i64 18])) 0 [] :=
  fnl_run 300 [] [.f [0] [crtS 0 x l] [(0, 0, rowC l)] (.pv (.int .i64 (0))) 0 [], .k, .r (.bool true), .k, .f [0] [crtS 0 x l, .pv (certV a b)] [(0, 0, rowC l)] (.pv (.bool false)) 0 [], .t true]
     True.intro (And.intro hc (And.intro (Eq.refl (List.map (SV.ren (renU [0] 4)) [crtS 0 x l])) (And.intro (reflH (renU [0] 4) [(0, 0, rowC l)]) (And.intro hv (And.intro hh (And.intro (Eq.refl (List.map (SV.ren (renU [0] 4)) [crtS 0 x l, .pv (certV a b)])) (And.intro (reflH (renU [0] 4) [(0, 0, rowC l)]) (And.intro hf True.intro)))))))) (by kernel_rfl)

set_option maxRecDepth 100000 in
theorem ra8_worn {l : List Pt} {x a b : Int} (hc : FnL Try.prog 24 1 [crtS 0 x l] [(0, 0, rowC l)] (.pv (.int .i64 (0))) 0 []) (hv : Pure Try.prog 34 #[certV a b] (.bool true)) (hh : FnL Try.prog 35 1 [crtS 0 x l, .pv (certV a b)] [(0, 0, rowC l)] (.pv (.bool false)) 0 []) (hf : ((l.length : Int) == 200) = false) (hu : (x == 1000000) = true) :
    FnL Try.prog 20 1 [crtS 0 x l, .pv (certV a b)] [(0, 0, rowC l)] (.pv (.tuple #[.agg #[.int .i64 0, .slice none 0 0], .int .i64 0, .int .i64 18])) 0 [] :=
  fnl_run 300 [] [.f [0] [crtS 0 x l] [(0, 0, rowC l)] (.pv (.int .i64 (0))) 0 [], .k, .r (.bool true), .k, .f [0] [crtS 0 x l, .pv (certV a b)] [(0, 0, rowC l)] (.pv (.bool false)) 0 [], .t false, .t true]
     True.intro (And.intro hc (And.intro (Eq.refl (List.map (SV.ren (renU [0] 4)) [crtS 0 x l])) (And.intro (reflH (renU [0] 4) [(0, 0, rowC l)]) (And.intro hv (And.intro hh (And.intro (Eq.refl (List.map (SV.ren (renU [0] 4)) [crtS 0 x l, .pv (certV a b)])) (And.intro (reflH (renU [0] 4) [(0, 0, rowC l)]) (And.intro hf (And.intro hu True.intro))))))))) (by kernel_rfl)

set_option maxRecDepth 100000 in
theorem ra8_ok {l : List Pt} {x y a b : Int} (hc : FnL Try.prog 24 1 [crtS 0 x l] [(0, 0, rowC l)] (.pv (.int .i64 (0))) 0 []) (hv : Pure Try.prog 34 #[certV a b] (.bool true)) (hh : FnL Try.prog 35 1 [crtS 0 x l, .pv (certV a b)] [(0, 0, rowC l)] (.pv (.bool false)) 0 []) (hf : ((l.length : Int) == 200) = false) (hu : (x == 1000000) = false) (ht : FnL Try.prog 9 1 [crtS 0 x l] [(0, 0, rowC l)] (.ag [.pv (.int .i64 x), .ls 1 l.length]) 1 [(1, 0, rowC l)]) (hn : l.length + 1 ≤ 1000000) (hy : Value.int .i64 (IntKind.i64.wrap (x + 1)) = .int .i64 (y)) :
    FnL Try.prog 20 1 [crtS 0 x l, .pv (certV a b)] [(0, 0, rowC l)] (.tu [.ag [.pv (.int .i64 y), .ls 1 (l ++ [(Pt.mk x a b)]).length], .one (.pv (.int .i64 x)), .one (.pv (.int .i64 0))]) 1 [(1, 0, rowC (l ++ [(Pt.mk x a b)]))] :=
  fnl_runX 300 [(1, 7)] [.f [0] [crtS 0 x l] [(0, 0, rowC l)] (.pv (.int .i64 (0))) 0 [], .k, .r (.bool true), .k, .f [0] [crtS 0 x l, .pv (certV a b)] [(0, 0, rowC l)] (.pv (.bool false)) 0 [], .t false, .t false, .f [0] [crtS 0 x l] [(0, 0, rowC l)] (.ag [.pv (.int .i64 x), .ls 1 l.length]) 1 [(1, 0, rowC l)], .r (.int .i64 (y))]
    (snoc_tuC 7 y x l (Pt.mk x a b)) (And.intro (snoc_rowC l (Pt.mk x a b)) True.intro) (And.intro hc (And.intro (Eq.refl (List.map (SV.ren (renU [0] 4)) [crtS 0 x l])) (And.intro (reflH (renU [0] 4) [(0, 0, rowC l)]) (And.intro hv (And.intro hh (And.intro (Eq.refl (List.map (SV.ren (renU [0] 4)) [crtS 0 x l, .pv (certV a b)])) (And.intro (reflH (renU [0] 4) [(0, 0, rowC l)]) (And.intro hf (And.intro hu (And.intro ht (And.intro (Eq.refl (List.map (SV.ren (renU [0] 4)) [crtS 0 x l])) (And.intro (reflH (renU [0] 4) [(0, 0, rowC l)]) (And.intro hn (And.intro hy True.intro)))))))))))))) (by kernel_rfl)

set_option maxRecDepth 100000 in
theorem of8_skip {l : List Pt} {vs : List Value} {k m : Nat} {p : Pt} {x n : Int} (hk : l[k]? = some p) (hin : 0 ≤ (k : Int) ∧ (k : Int) < (l.length : Int)) (hlt : decide ((k : Int) < (l.length : Int)) = true) (hl : (p.a == n) = false) (hh : (p.b == n) = false) (hs : Value.int .i64 (IntKind.i64.wrap ((k : Int) + 1)) = .int .i64 (((k + 1 : Nat) : Int))) {e : Exit} {tm2 : List (Nat × SV)} {hp2 : List (Nat × Nat × SV)}
    (r : RunsL Try.prog 1 1 (loopOf Try.prog 23 0) 48 3 ([(1, .pv (.int .i64 n)), (2, .pp 1 0), (6, .ls 2 (m)), (7, .pv (.int .i64 ((k + 1 : Nat) : Int)))]) ([(1, 0, .pv (.int .i64 x)), (1, 1, .ls 0 l.length), (0, 0, rowC l), (2, 0, .row 3 1 (m) (vs))]) e tm2 hp2) : RunsL Try.prog 1 1 (loopOf Try.prog 23 0) 48 3 ([(1, .pv (.int .i64 n)), (2, .pp 1 0), (6, .ls 2 (m)), (7, .pv (.int .i64 (k : Int)))]) ([(1, 0, .pv (.int .i64 x)), (1, 1, .ls 0 l.length), (0, 0, rowC l), (2, 0, .row 3 1 (m) (vs))]) e tm2 hp2 :=
  RunsL.next [] 300 [.t true, .r (Value.int .i64 p.a), .t false, .r (Value.int .i64 p.b), .t false, .r (.int .i64 (((k + 1 : Nat) : Int)))]
    (round_of (And.intro hlt (And.intro hin (And.intro (ra_lo hk) (And.intro hl (And.intro hin (And.intro (ra_hi hk) (And.intro hh (And.intro hs True.intro)))))))) (by kernel_rfl)) r

set_option maxRecDepth 100000 in
theorem of8_lo {l : List Pt} {vs : List Value} {k m : Nat} {p : Pt} {x n : Int} (hk : l[k]? = some p) (hin : 0 ≤ (k : Int) ∧ (k : Int) < (l.length : Int)) (hlt : decide ((k : Int) < (l.length : Int)) = true) (hl : (p.a == n) = true) (hm : m + 1 ≤ 1000000) (hs : Value.int .i64 (IntKind.i64.wrap ((k : Int) + 1)) = .int .i64 (((k + 1 : Nat) : Int))) {e : Exit} {tm2 : List (Nat × SV)} {hp2 : List (Nat × Nat × SV)}
    (r : RunsL Try.prog 1 1 (loopOf Try.prog 23 0) 48 3 ([(1, .pv (.int .i64 n)), (2, .pp 1 0), (6, .ls 2 (m + 1)), (7, .pv (.int .i64 ((k + 1 : Nat) : Int)))]) ([(1, 0, .pv (.int .i64 x)), (1, 1, .ls 0 l.length), (0, 0, rowC l), (2, 0, .row 3 1 (m + 1) (vs ++ [.int .i64 p.id]))]) e tm2 hp2) : RunsL Try.prog 1 1 (loopOf Try.prog 23 0) 48 3 ([(1, .pv (.int .i64 n)), (2, .pp 1 0), (6, .ls 2 (m)), (7, .pv (.int .i64 (k : Int)))]) ([(1, 0, .pv (.int .i64 x)), (1, 1, .ls 0 l.length), (0, 0, rowC l), (2, 0, .row 3 1 (m) (vs))]) e tm2 hp2 :=
  RunsL.next [(2, 4)] 300 [.t true, .r (Value.int .i64 p.a), .t true, .r (Value.int .i64 p.id), .r (.int .i64 (((k + 1 : Nat) : Int)))]
    (round_of (And.intro hlt (And.intro hin (And.intro (ra_lo hk) (And.intro hl (And.intro hin (And.intro (ra_nu hk) (And.intro hm (And.intro hs True.intro)))))))) (by kernel_rfl)) r

set_option maxRecDepth 100000 in
theorem of8_hi {l : List Pt} {vs : List Value} {k m : Nat} {p : Pt} {x n : Int} (hk : l[k]? = some p) (hin : 0 ≤ (k : Int) ∧ (k : Int) < (l.length : Int)) (hlt : decide ((k : Int) < (l.length : Int)) = true) (hl : (p.a == n) = false) (hh : (p.b == n) = true) (hm : m + 1 ≤ 1000000) (hs : Value.int .i64 (IntKind.i64.wrap ((k : Int) + 1)) = .int .i64 (((k + 1 : Nat) : Int))) {e : Exit} {tm2 : List (Nat × SV)} {hp2 : List (Nat × Nat × SV)}
    (r : RunsL Try.prog 1 1 (loopOf Try.prog 23 0) 48 3 ([(1, .pv (.int .i64 n)), (2, .pp 1 0), (6, .ls 2 (m + 1)), (7, .pv (.int .i64 ((k + 1 : Nat) : Int)))]) ([(1, 0, .pv (.int .i64 x)), (1, 1, .ls 0 l.length), (0, 0, rowC l), (2, 0, .row 3 1 (m + 1) (vs ++ [.int .i64 p.id]))]) e tm2 hp2) : RunsL Try.prog 1 1 (loopOf Try.prog 23 0) 48 3 ([(1, .pv (.int .i64 n)), (2, .pp 1 0), (6, .ls 2 (m)), (7, .pv (.int .i64 (k : Int)))]) ([(1, 0, .pv (.int .i64 x)), (1, 1, .ls 0 l.length), (0, 0, rowC l), (2, 0, .row 3 1 (m) (vs))]) e tm2 hp2 :=
  RunsL.next [(2, 4)] 300 [.t true, .r (Value.int .i64 p.a), .t false, .r (Value.int .i64 p.b), .t true, .r (Value.int .i64 p.id), .r (.int .i64 (((k + 1 : Nat) : Int)))]
    (round_of (And.intro hlt (And.intro hin (And.intro (ra_lo hk) (And.intro hl (And.intro hin (And.intro (ra_hi hk) (And.intro hh (And.intro hin (And.intro (ra_nu hk) (And.intro hm (And.intro hs True.intro))))))))))) (by kernel_rfl)) r

set_option maxRecDepth 100000 in
theorem of8_end {l : List Pt} {vs : List Value} {k m : Nat} {x n : Int} (hge : decide ((k : Int) < (l.length : Int)) = false) : RunsL Try.prog 1 1 (loopOf Try.prog 23 0) 48 3 ([(1, .pv (.int .i64 n)), (2, .pp 1 0), (6, .ls 2 (m)), (7, .pv (.int .i64 (k : Int)))]) ([(1, 0, .pv (.int .i64 x)), (1, 1, .ls 0 l.length), (0, 0, rowC l), (2, 0, .row 3 1 (m) (vs))]) (.exit 0) ([(6, .ls 2 m)]) ([(1, 0, .pv (.int .i64 x)), (1, 1, .ls 0 l.length), (0, 0, rowC l), (2, 0, .row 3 1 (m) (vs))]) :=
  RunsL.stop [] 300 [.t false] (fun h => by cases h)
    (round_of (And.intro hge True.intro) (by kernel_rfl))

set_option maxRecDepth 100000 in
theorem ro8_bad {l : List Pt} {x n : Int} (hc : FnL Try.prog 24 1 [crtS 0 x l] [(0, 0, rowC l)] (.pv (.int .i64 (8))) 0 []) :
    FnL Try.prog 23 1 [crtS 0 x l, .pv (.int .i64 (n))] [(0, 0, rowC l)] (.pv (.tuple #[.slice none 0 0, .int .i64 8])) 0 [] :=
  fnl_run 300 [] [.f [0] [crtS 0 x l] [(0, 0, rowC l)] (.pv (.int .i64 (8))) 0 [], .k]
     True.intro (And.intro hc (And.intro (Eq.refl (List.map (SV.ren (renU [0] 2)) [crtS 0 x l])) (And.intro (reflH (renU [0] 2) [(0, 0, rowC l)]) True.intro))) (by kernel_rfl)

set_option maxRecDepth 100000 in
theorem ro8_ok {l : List Pt} {vs : List Value} {m : Nat} {x n : Int} (hc : FnL Try.prog 24 1 [crtS 0 x l] [(0, 0, rowC l)] (.pv (.int .i64 (0))) 0 []) (r0 : RunsL Try.prog 1 1 (loopOf Try.prog 23 0) 48 3 ([(1, .pv (.int .i64 n)), (2, .pp 1 0), (6, .ls 2 (0)), (7, .pv (.int .i64 ((0 : Nat) : Int)))]) ([(1, 0, .pv (.int .i64 x)), (1, 1, .ls 0 l.length), (0, 0, rowC l), (2, 0, .row 3 1 (0) ([]))]) (.exit 0) ([(6, .ls 2 m)]) ([(1, 0, .pv (.int .i64 x)), (1, 1, .ls 0 l.length), (0, 0, rowC l), (2, 0, .row 3 1 (m) (vs))])) :
    FnL Try.prog 23 1 [crtS 0 x l, .pv (.int .i64 (n))] [(0, 0, rowC l)] (.tu [.one (.ls 1 m), .one (.pv (.int .i64 0))]) 1 [(1, 0, .row 3 1 m vs)] :=
  fnl_run 300 [(1, 2)] [.f [0] [crtS 0 x l] [(0, 0, rowC l)] (.pv (.int .i64 (0))) 0 [], .k, .ln true 6 0 3 1, .l (.exit 0) ([(1, .pv (.int .i64 n)), (2, .pp 1 0), (6, .ls 2 (0)), (7, .pv (.int .i64 ((0 : Nat) : Int)))]) ([(1, 0, .pv (.int .i64 x)), (1, 1, .ls 0 l.length), (0, 0, rowC l), (2, 0, .row 3 1 (0) ([]))]) ([(6, .ls 2 m)]) ([(1, 0, .pv (.int .i64 x)), (1, 1, .ls 0 l.length), (0, 0, rowC l), (2, 0, .row 3 1 (m) (vs))])]
     (reflH (renN [(1, 2)]) [(1, 0, .row 3 1 m vs)]) (And.intro hc (And.intro (Eq.refl (List.map (SV.ren (renU [0] 2)) [crtS 0 x l])) (And.intro (reflH (renU [0] 2) [(0, 0, rowC l)]) (And.intro (reflT (renN []) ([(1, .pv (.int .i64 n)), (2, .pp 1 0), (6, .ls 2 (0)), (7, .pv (.int .i64 ((0 : Nat) : Int)))])) (And.intro (reflH (renN []) ([(1, 0, .pv (.int .i64 x)), (1, 1, .ls 0 l.length), (0, 0, rowC l), (2, 0, .row 3 1 (0) ([]))])) (And.intro r0 True.intro)))))) (by kernel_rfl)

end Go.Proofs.Ytjjmnoiffpnphaa
