/-
  Twin, New, Same, SameIDs, path by path. Conditions: none.
-/
import Derived.Test.YtjnoheffodnobaaFa
namespace Go.Proofs.Ytjnoheffodnobaa
open Go.RowKit

set_option maxRecDepth 100000 in
theorem twin_path {l : List Pt} (hn : 0 + l.length ≤ 1000000) :
    FnL Try.prog 23 1 [fldS 0 l] [(0, 0, rowP l)] (.ag [.ls 1 l.length]) 1 [(1, 0, rowP l)] :=
  fnl_runX 300 [(1, 4)] []
    (twin_x l) (And.intro (twin_row l) True.intro) (And.intro hn True.intro) (by kernel_rfl)

set_option maxRecDepth 100000 in
theorem new_path  :
    FnL Try.prog 18 0 [] [] (.pv (.agg #[.slice none 0 0])) 0 [] :=
  fnl_run 300 [] []
     True.intro True.intro (by kernel_rfl)

set_option maxRecDepth 100000 in
theorem same_next {l m : List Pt} {k : Nat} {p q : Pt} (hk : l[k]? = some p) (hin : 0 ≤ (k : Int) ∧ (k : Int) < (l.length : Int)) (hq : m[k]? = some q) (hin2 : 0 ≤ (k : Int) ∧ (k : Int) < (m.length : Int)) (hlt : decide ((k : Int) < (l.length : Int)) = true) (hne : (!(p.id == q.id && (p.a == q.a && (p.b == q.b && true)))) = false) (hs : Value.int .i64 (IntKind.i64.wrap ((k : Int) + 1)) = .int .i64 (((k + 1 : Nat) : Int))) {e : Exit} {tm2 : List (Nat × SV)} {hp2 : List (Nat × Nat × SV)}
    (r : RunsL Try.prog 2 2 (loopOf Try.prog 29 0) 31 4 ([(2, .pp 2 0), (3, .pp 3 0), (5, .pv (.int .i64 ((k + 1 : Nat) : Int)))]) ([(2, 0, .ls 0 l.length), (3, 0, .ls 1 m.length), (0, 0, rowP l), (1, 0, rowP m)]) e tm2 hp2) : RunsL Try.prog 2 2 (loopOf Try.prog 29 0) 31 4 ([(2, .pp 2 0), (3, .pp 3 0), (5, .pv (.int .i64 (k : Int)))]) ([(2, 0, .ls 0 l.length), (3, 0, .ls 1 m.length), (0, 0, rowP l), (1, 0, rowP m)]) e tm2 hp2 :=
  RunsL.next [] 300 [.t true, .r (ptV p), .r (ptV q), .t false, .r (.int .i64 (((k + 1 : Nat) : Int)))]
    (round_of (And.intro hlt (And.intro hin (And.intro (ra_pt hk) (And.intro hin2 (And.intro (ra_pt hq) (And.intro hne (And.intro hs True.intro))))))) (by kernel_rfl)) r

set_option maxRecDepth 100000 in
theorem same_dif {l m : List Pt} {k : Nat} {p q : Pt} (hk : l[k]? = some p) (hin : 0 ≤ (k : Int) ∧ (k : Int) < (l.length : Int)) (hq : m[k]? = some q) (hin2 : 0 ≤ (k : Int) ∧ (k : Int) < (m.length : Int)) (hlt : decide ((k : Int) < (l.length : Int)) = true) (hne : (!(p.id == q.id && (p.a == q.a && (p.b == q.b && true)))) = true) : RunsL Try.prog 2 2 (loopOf Try.prog 29 0) 31 4 ([(2, .pp 2 0), (3, .pp 3 0), (5, .pv (.int .i64 (k : Int)))]) ([(2, 0, .ls 0 l.length), (3, 0, .ls 1 m.length), (0, 0, rowP l), (1, 0, rowP m)]) (.ret) ([(4, .pv (.bool false))]) ([]) :=
  RunsL.stop [] 300 [.t true, .r (ptV p), .r (ptV q), .t true] (fun h => by cases h)
    (round_of (And.intro hlt (And.intro hin (And.intro (ra_pt hk) (And.intro hin2 (And.intro (ra_pt hq) (And.intro hne True.intro)))))) (by kernel_rfl))

set_option maxRecDepth 100000 in
theorem same_end {l m : List Pt} {k : Nat} (hge : decide ((k : Int) < (l.length : Int)) = false) : RunsL Try.prog 2 2 (loopOf Try.prog 29 0) 31 4 ([(2, .pp 2 0), (3, .pp 3 0), (5, .pv (.int .i64 (k : Int)))]) ([(2, 0, .ls 0 l.length), (3, 0, .ls 1 m.length), (0, 0, rowP l), (1, 0, rowP m)]) (.exit 0) ([]) ([]) :=
  RunsL.stop [] 300 [.t false] (fun h => by cases h)
    (round_of (And.intro hge True.intro) (by kernel_rfl))

set_option maxRecDepth 100000 in
theorem same_len {l m : List Pt} (hl : (!((l.length : Int) == (m.length : Int))) = true) :
    FnL Try.prog 29 2 [fldS 0 l, fldS 1 m] [(0, 0, rowP l), (1, 0, rowP m)] (.pv (.bool false)) 0 [] :=
  fnl_run 300 [] [.t true]
     True.intro (And.intro hl True.intro) (by kernel_rfl)

set_option maxRecDepth 100000 in
theorem same_no {l m : List Pt} (hl : (!((l.length : Int) == (m.length : Int))) = false) (r0 : RunsL Try.prog 2 2 (loopOf Try.prog 29 0) 31 4 ([(2, .pp 2 0), (3, .pp 3 0), (5, .pv (.int .i64 ((0 : Nat) : Int)))]) ([(2, 0, .ls 0 l.length), (3, 0, .ls 1 m.length), (0, 0, rowP l), (1, 0, rowP m)]) (.ret) ([(4, .pv (.bool false))]) ([])) :
    FnL Try.prog 29 2 [fldS 0 l, fldS 1 m] [(0, 0, rowP l), (1, 0, rowP m)] (.pv (.bool false)) 0 [] :=
  fnl_run 300 [] [.t false, .l (.ret) ([(2, .pp 2 0), (3, .pp 3 0), (5, .pv (.int .i64 ((0 : Nat) : Int)))]) ([(2, 0, .ls 0 l.length), (3, 0, .ls 1 m.length), (0, 0, rowP l), (1, 0, rowP m)]) ([(4, .pv (.bool false))]) ([])]
     True.intro (And.intro hl (And.intro (reflT (renN []) ([(2, .pp 2 0), (3, .pp 3 0), (5, .pv (.int .i64 ((0 : Nat) : Int)))])) (And.intro (reflH (renN []) ([(2, 0, .ls 0 l.length), (3, 0, .ls 1 m.length), (0, 0, rowP l), (1, 0, rowP m)])) (And.intro r0 True.intro)))) (by kernel_rfl)

set_option maxRecDepth 100000 in
theorem same_yes {l m : List Pt} (hl : (!((l.length : Int) == (m.length : Int))) = false) (r0 : RunsL Try.prog 2 2 (loopOf Try.prog 29 0) 31 4 ([(2, .pp 2 0), (3, .pp 3 0), (5, .pv (.int .i64 ((0 : Nat) : Int)))]) ([(2, 0, .ls 0 l.length), (3, 0, .ls 1 m.length), (0, 0, rowP l), (1, 0, rowP m)]) (.exit 0) ([]) ([])) :
    FnL Try.prog 29 2 [fldS 0 l, fldS 1 m] [(0, 0, rowP l), (1, 0, rowP m)] (.pv (.bool true)) 0 [] :=
  fnl_run 300 [] [.t false, .l (.exit 0) ([(2, .pp 2 0), (3, .pp 3 0), (5, .pv (.int .i64 ((0 : Nat) : Int)))]) ([(2, 0, .ls 0 l.length), (3, 0, .ls 1 m.length), (0, 0, rowP l), (1, 0, rowP m)]) ([]) ([])]
     True.intro (And.intro hl (And.intro (reflT (renN []) ([(2, .pp 2 0), (3, .pp 3 0), (5, .pv (.int .i64 ((0 : Nat) : Int)))])) (And.intro (reflH (renN []) ([(2, 0, .ls 0 l.length), (3, 0, .ls 1 m.length), (0, 0, rowP l), (1, 0, rowP m)])) (And.intro r0 True.intro)))) (by kernel_rfl)

theorem same_nil : Pure Try.prog 29 #[.agg #[.slice none 0 0], .agg #[.slice none 0 0]] (.bool true) :=
  pure_run (args := [.agg #[.slice none 0 0], .agg #[.slice none 0 0]]) 200 [] (And.intro rfl True.intro) (by kernel_rfl)

set_option maxRecDepth 100000 in
theorem sid_next {l m : List Int} {k : Nat} {x y : Int} (hk : l[k]? = some x) (hin : 0 ≤ (k : Int) ∧ (k : Int) < (l.length : Int)) (hq : m[k]? = some y) (hin2 : 0 ≤ (k : Int) ∧ (k : Int) < (m.length : Int)) (hlt : decide ((k : Int) < (l.length : Int)) = true) (hne : (!(x == y)) = false) (hs : Value.int .i64 (IntKind.i64.wrap ((k : Int) + 1)) = .int .i64 (((k + 1 : Nat) : Int))) {e : Exit} {tm2 : List (Nat × SV)} {hp2 : List (Nat × Nat × SV)}
    (r : RunsL Try.prog 2 2 (loopOf Try.prog 33 0) 26 2 ([(0, .ls 0 l.length), (1, .ls 1 m.length), (5, .pv (.int .i64 ((k + 1 : Nat) : Int)))]) ([(0, 0, rowI l), (1, 0, rowI m)]) e tm2 hp2) : RunsL Try.prog 2 2 (loopOf Try.prog 33 0) 26 2 ([(0, .ls 0 l.length), (1, .ls 1 m.length), (5, .pv (.int .i64 (k : Int)))]) ([(0, 0, rowI l), (1, 0, rowI m)]) e tm2 hp2 :=
  RunsL.next [] 300 [.t true, .r (Value.int .i64 x), .r (Value.int .i64 y), .t false, .r (.int .i64 (((k + 1 : Nat) : Int)))]
    (round_of (And.intro hlt (And.intro hin (And.intro (ra_int hk) (And.intro hin2 (And.intro (ra_int hq) (And.intro hne (And.intro hs True.intro))))))) (by kernel_rfl)) r

set_option maxRecDepth 100000 in
theorem sid_dif {l m : List Int} {k : Nat} {x y : Int} (hk : l[k]? = some x) (hin : 0 ≤ (k : Int) ∧ (k : Int) < (l.length : Int)) (hq : m[k]? = some y) (hin2 : 0 ≤ (k : Int) ∧ (k : Int) < (m.length : Int)) (hlt : decide ((k : Int) < (l.length : Int)) = true) (hne : (!(x == y)) = true) : RunsL Try.prog 2 2 (loopOf Try.prog 33 0) 26 2 ([(0, .ls 0 l.length), (1, .ls 1 m.length), (5, .pv (.int .i64 (k : Int)))]) ([(0, 0, rowI l), (1, 0, rowI m)]) (.ret) ([(4, .pv (.bool false))]) ([]) :=
  RunsL.stop [] 300 [.t true, .r (Value.int .i64 x), .r (Value.int .i64 y), .t true] (fun h => by cases h)
    (round_of (And.intro hlt (And.intro hin (And.intro (ra_int hk) (And.intro hin2 (And.intro (ra_int hq) (And.intro hne True.intro)))))) (by kernel_rfl))

set_option maxRecDepth 100000 in
theorem sid_end {l m : List Int} {k : Nat} (hge : decide ((k : Int) < (l.length : Int)) = false) : RunsL Try.prog 2 2 (loopOf Try.prog 33 0) 26 2 ([(0, .ls 0 l.length), (1, .ls 1 m.length), (5, .pv (.int .i64 (k : Int)))]) ([(0, 0, rowI l), (1, 0, rowI m)]) (.exit 0) ([]) ([]) :=
  RunsL.stop [] 300 [.t false] (fun h => by cases h)
    (round_of (And.intro hge True.intro) (by kernel_rfl))

set_option maxRecDepth 100000 in
theorem sid_len {l m : List Int} (hl : (!((l.length : Int) == (m.length : Int))) = true) :
    FnL Try.prog 33 2 [.ls 0 l.length, .ls 1 m.length] [(0, 0, rowI l), (1, 0, rowI m)] (.pv (.bool false)) 0 [] :=
  fnl_run 300 [] [.t true]
     True.intro (And.intro hl True.intro) (by kernel_rfl)

set_option maxRecDepth 100000 in
theorem sid_no {l m : List Int} (hl : (!((l.length : Int) == (m.length : Int))) = false) (r0 : RunsL Try.prog 2 2 (loopOf Try.prog 33 0) 26 2 ([(0, .ls 0 l.length), (1, .ls 1 m.length), (5, .pv (.int .i64 ((0 : Nat) : Int)))]) ([(0, 0, rowI l), (1, 0, rowI m)]) (.ret) ([(4, .pv (.bool false))]) ([])) :
    FnL Try.prog 33 2 [.ls 0 l.length, .ls 1 m.length] [(0, 0, rowI l), (1, 0, rowI m)] (.pv (.bool false)) 0 [] :=
  fnl_run 300 [] [.t false, .l (.ret) ([(0, .ls 0 l.length), (1, .ls 1 m.length), (5, .pv (.int .i64 ((0 : Nat) : Int)))]) ([(0, 0, rowI l), (1, 0, rowI m)]) ([(4, .pv (.bool false))]) ([])]
     True.intro (And.intro hl (And.intro (reflT (renN []) ([(0, .ls 0 l.length), (1, .ls 1 m.length), (5, .pv (.int .i64 ((0 : Nat) : Int)))])) (And.intro (reflH (renN []) ([(0, 0, rowI l), (1, 0, rowI m)])) (And.intro r0 True.intro)))) (by kernel_rfl)

set_option maxRecDepth 100000 in
theorem sid_yes {l m : List Int} (hl : (!((l.length : Int) == (m.length : Int))) = false) (r0 : RunsL Try.prog 2 2 (loopOf Try.prog 33 0) 26 2 ([(0, .ls 0 l.length), (1, .ls 1 m.length), (5, .pv (.int .i64 ((0 : Nat) : Int)))]) ([(0, 0, rowI l), (1, 0, rowI m)]) (.exit 0) ([]) ([])) :
    FnL Try.prog 33 2 [.ls 0 l.length, .ls 1 m.length] [(0, 0, rowI l), (1, 0, rowI m)] (.pv (.bool true)) 0 [] :=
  fnl_run 300 [] [.t false, .l (.exit 0) ([(0, .ls 0 l.length), (1, .ls 1 m.length), (5, .pv (.int .i64 ((0 : Nat) : Int)))]) ([(0, 0, rowI l), (1, 0, rowI m)]) ([]) ([])]
     True.intro (And.intro hl (And.intro (reflT (renN []) ([(0, .ls 0 l.length), (1, .ls 1 m.length), (5, .pv (.int .i64 ((0 : Nat) : Int)))])) (And.intro (reflH (renN []) ([(0, 0, rowI l), (1, 0, rowI m)])) (And.intro r0 True.intro)))) (by kernel_rfl)

end Go.Proofs.Ytjnoheffodnobaa
