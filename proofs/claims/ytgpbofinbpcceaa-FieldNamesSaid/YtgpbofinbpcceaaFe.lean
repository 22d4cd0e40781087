/-
  Twin, New, Same, SameIDs, path by path. Conditions: none.
-/
import Derived.Test.YtgpbofinbpcceaaFa
namespace Go.Proofs.Ytgpbofinbpcceaa
open Go.RowKit
set_option maxRecDepth 100000 in
theorem sid_next {l m : List Int} {k : Nat} {x y : Int} (hk : l[k]? = some x) (hin : 0 ≤ (k : Int) ∧ (k : Int) < (l.length : Int)) (hq : m[k]? = some y) (hin2 : 0 ≤ (k : Int) ∧ (k : Int) < (m.length : Int)) (hlt : decide ((k : Int) < (l.length : Int)) = true) (hne : (!(x == y)) = false) (hs : Value.int .i64 (IntKind.i64.wrap ((k : Int) + 1)) = .int .i64 (((k + 1 : Nat) : Int))) {e : Exit} {tm2 : List (Nat × SV)} {hp2 : List (Nat × Nat × SV)}
    (r : RunsL Try.prog 2 2 (loopOf Try.prog 23 0) 26 2 ([(0, .ls 0 l.length), (1, .ls 1 m.length), (5, .pv (.int .i64 ((k + 1 : Nat) : Int)))]) ([(0, 0, rowI l), (1, 0, rowI m)]) e tm2 hp2) : RunsL Try.prog 2 2 (loopOf Try.prog 23 0) 26 2 ([(0, .ls 0 l.length), (1, .ls 1 m.length), (5, .pv (.int .i64 (k : Int)))]) ([(0, 0, rowI l), (1, 0, rowI m)]) e tm2 hp2 :=
  RunsL.next [] 300 [.t true, .r (Value.int .i64 x), .r (Value.int .i64 y), .t false, .r (.int .i64 (((k + 1 : Nat) : Int)))]
    (round_of (And.intro hlt (And.intro hin (And.intro (ra_int hk) (And.intro hin2 (And.intro (ra_int hq) (And.intro hne (And.intro hs True.intro))))))) (by kernel_rfl)) r

set_option maxRecDepth 100000 in
theorem sid_end {l m : List Int} {k : Nat} (hge : decide ((k : Int) < (l.length : Int)) = false) : RunsL Try.prog 2 2 (loopOf Try.prog 23 0) 26 2 ([(0, .ls 0 l.length), (1, .ls 1 m.length), (5, .pv (.int .i64 (k : Int)))]) ([(0, 0, rowI l), (1, 0, rowI m)]) (.exit 0) ([]) ([]) :=
  RunsL.stop [] 300 [.t false] (fun h => by cases h)
    (round_of (And.intro hge True.intro) (by kernel_rfl))

set_option maxRecDepth 100000 in
theorem sid_yes {l m : List Int} (hl : (!((l.length : Int) == (m.length : Int))) = false) (r0 : RunsL Try.prog 2 2 (loopOf Try.prog 23 0) 26 2 ([(0, .ls 0 l.length), (1, .ls 1 m.length), (5, .pv (.int .i64 ((0 : Nat) : Int)))]) ([(0, 0, rowI l), (1, 0, rowI m)]) (.exit 0) ([]) ([])) :
    FnL Try.prog 23 2 [.ls 0 l.length, .ls 1 m.length] [(0, 0, rowI l), (1, 0, rowI m)] (.pv (.bool true)) 0 [] :=
  fnl_run 300 [] [.t false, .l (.exit 0) ([(0, .ls 0 l.length), (1, .ls 1 m.length), (5, .pv (.int .i64 ((0 : Nat) : Int)))]) ([(0, 0, rowI l), (1, 0, rowI m)]) ([]) ([])]
     True.intro (And.intro hl (And.intro (reflT (renN []) ([(0, .ls 0 l.length), (1, .ls 1 m.length), (5, .pv (.int .i64 ((0 : Nat) : Int)))])) (And.intro (reflH (renN []) ([(0, 0, rowI l), (1, 0, rowI m)])) (And.intro r0 True.intro)))) (by kernel_rfl)

end Go.Proofs.Ytgpbofinbpcceaa
