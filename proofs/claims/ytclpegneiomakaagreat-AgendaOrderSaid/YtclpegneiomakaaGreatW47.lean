/-
  Joined: Yt, Yu. Conditions: none.
-/
import Derived.Test.YtclpegneiomakaaGreatYs
namespace Go.Proofs.YtclpegneiomakaaGreat
open Go.RowKit

set_option maxRecDepth 100000 in
theorem or_unfit {u fr wh : List Int} {b : List Bool} {ev : List Ev} (hfit : FnL Tryz.prog 31 5 [agA u b fr ev wh] [(0, 0, zrI u), (1, 0, zrB b), (2, 0, zrI fr), (3, 0, rowE ev), (4, 0, zrI wh)] (.pv (.bool false)) 0 []) (hal : FnL Tryz.prog 21 0 [] [] (.pv (.bool true)) 0 []) :
    FnL Tryz.prog 6 5 [agA u b fr ev wh] [(0, 0, zrI u), (1, 0, zrB b), (2, 0, zrI fr), (3, 0, rowE ev), (4, 0, zrI wh)] (.pv (.bool true)) 0 [] :=
  fnl_run 300 [] [.f [0,1,2,3,4] [agA u b fr ev wh] [(0, 0, zrI u), (1, 0, zrB b), (2, 0, zrI fr), (3, 0, rowE ev), (4, 0, zrI wh)] (.pv (.bool false)) 0 [], .k, .f [] [] [] (.pv (.bool true)) 0 []]
     True.intro (And.intro hfit (And.intro (Eq.refl (List.map (SV.ren (renU [0,1,2,3,4] 6)) [agA u b fr ev wh])) (And.intro (reflH (renU [0,1,2,3,4] 6) [(0, 0, zrI u), (1, 0, zrB b), (2, 0, zrI fr), (3, 0, rowE ev), (4, 0, zrI wh)]) (And.intro hal (And.intro (Eq.refl (List.map (SV.ren (renU [] 6)) [])) (And.intro (reflH (renU [] 6) []) True.intro)))))) (by kernel_rfl)

set_option maxRecDepth 100000 in
theorem oi_yes {u fr wh : List Int} {b : List Bool} {ev zs : List Ev} {k j : Nat} (hlt : decide ((j : Int) < (ev.length : Int)) = true) (hs : Value.int .i64 (IntKind.i64.wrap ((j : Int) + 1)) = .int .i64 (((j + 1 : Nat) : Int))) {e : Exit} {tm2 : List (Nat × SV)} {hp2 : List (Nat × Nat × SV)}
    (r : RunsL Tryz.prog 5 5 (loopOf Tryz.prog 6 1) 106 8 ([(1, .pp 5 0), (5, .ls 7 zs.length), (7, .pv (.int .i64 (k : Int))), (8, .pv (.bool true)), (9, .pv (.int .i64 ((j + 1 : Nat) : Int)))]) ([(5, 0, .ls 0 u.length), (5, 1, .ls 1 b.length), (5, 2, .ls 2 fr.length), (5, 3, .ls 3 ev.length), (5, 4, .ls 4 wh.length), (3, 0, rowE ev), (7, 0, rowE zs)]) e tm2 hp2) : RunsL Tryz.prog 5 5 (loopOf Tryz.prog 6 1) 106 8 ([(1, .pp 5 0), (5, .ls 7 zs.length), (7, .pv (.int .i64 (k : Int))), (8, .pv (.bool true)), (9, .pv (.int .i64 (j : Int)))]) ([(5, 0, .ls 0 u.length), (5, 1, .ls 1 b.length), (5, 2, .ls 2 fr.length), (5, 3, .ls 3 ev.length), (5, 4, .ls 4 wh.length), (3, 0, rowE ev), (7, 0, rowE zs)]) e tm2 hp2 :=
  RunsL.next [] 300 [.t true, .r (.int .i64 (((j + 1 : Nat) : Int)))]
    (round_of (And.intro hlt (And.intro hs True.intro)) (by kernel_rfl)) r

set_option maxRecDepth 100000 in
theorem oi_true {u fr wh : List Int} {b : List Bool} {ev zs : List Ev} {y m : Ev} {k j n : Nat} (hlt : decide ((j : Int) < (ev.length : Int)) = true) (hj : ev[j]? = some y) (hij : 0 ≤ (j : Int) ∧ (j : Int) < (ev.length : Int)) (hk : zs[k]? = some m) (hik : 0 ≤ (k : Int) ∧ (k : Int) < (zs.length : Int)) (hq : ((y.n == m.n && (y.d == m.d && true)) && (y.k == m.k && ((y.i == m.i && (y.w == m.w && true)) && true))) = true) (hs : Value.int .i64 (IntKind.i64.wrap ((j : Int) + 1)) = .int .i64 (((j + 1 : Nat) : Int))) {e : Exit} {tm2 : List (Nat × SV)} {hp2 : List (Nat × Nat × SV)}
    (r : RunsL Tryz.prog 5 5 (loopOf Tryz.prog 6 1) 106 8 ([(1, .pp 5 0), (5, .ls 7 zs.length), (7, .pv (.int .i64 (k : Int))), (8, .pv (.bool true)), (9, .pv (.int .i64 ((j + 1 : Nat) : Int)))]) ([(5, 0, .ls 0 u.length), (5, 1, .ls 1 b.length), (5, 2, .ls 2 fr.length), (5, 3, .ls 3 ev.length), (5, 4, .ls 4 wh.length), (3, 0, rowE ev), (7, 0, rowE zs)]) e tm2 hp2) : RunsL Tryz.prog 5 5 (loopOf Tryz.prog 6 1) 106 8 ([(1, .pp 5 0), (5, .ls 7 zs.length), (7, .pv (.int .i64 (k : Int))), (8, .pv (.bool false)), (9, .pv (.int .i64 (j : Int)))]) ([(5, 0, .ls 0 u.length), (5, 1, .ls 1 b.length), (5, 2, .ls 2 fr.length), (5, 3, .ls 3 ev.length), (5, 4, .ls 4 wh.length), (3, 0, rowE ev), (7, 0, rowE zs)]) e tm2 hp2 :=
  RunsL.next [] 300 [.t true, .r (eventV y), .r (eventV m), .t true, .r (.int .i64 (((j + 1 : Nat) : Int)))]
    (round_of (And.intro hlt (And.intro hij (And.intro (ya_e hj) (And.intro hik (And.intro (ya_e hk) (And.intro hq (And.intro hs True.intro))))))) (by kernel_rfl)) r

set_option maxRecDepth 100000 in
theorem oi_false {u fr wh : List Int} {b : List Bool} {ev zs : List Ev} {y m : Ev} {k j n : Nat} (hlt : decide ((j : Int) < (ev.length : Int)) = true) (hj : ev[j]? = some y) (hij : 0 ≤ (j : Int) ∧ (j : Int) < (ev.length : Int)) (hk : zs[k]? = some m) (hik : 0 ≤ (k : Int) ∧ (k : Int) < (zs.length : Int)) (hq : ((y.n == m.n && (y.d == m.d && true)) && (y.k == m.k && ((y.i == m.i && (y.w == m.w && true)) && true))) = false) (hs : Value.int .i64 (IntKind.i64.wrap ((j : Int) + 1)) = .int .i64 (((j + 1 : Nat) : Int))) {e : Exit} {tm2 : List (Nat × SV)} {hp2 : List (Nat × Nat × SV)}
    (r : RunsL Tryz.prog 5 5 (loopOf Tryz.prog 6 1) 106 8 ([(1, .pp 5 0), (5, .ls 7 zs.length), (7, .pv (.int .i64 (k : Int))), (8, .pv (.bool false)), (9, .pv (.int .i64 ((j + 1 : Nat) : Int)))]) ([(5, 0, .ls 0 u.length), (5, 1, .ls 1 b.length), (5, 2, .ls 2 fr.length), (5, 3, .ls 3 ev.length), (5, 4, .ls 4 wh.length), (3, 0, rowE ev), (7, 0, rowE zs)]) e tm2 hp2) : RunsL Tryz.prog 5 5 (loopOf Tryz.prog 6 1) 106 8 ([(1, .pp 5 0), (5, .ls 7 zs.length), (7, .pv (.int .i64 (k : Int))), (8, .pv (.bool false)), (9, .pv (.int .i64 (j : Int)))]) ([(5, 0, .ls 0 u.length), (5, 1, .ls 1 b.length), (5, 2, .ls 2 fr.length), (5, 3, .ls 3 ev.length), (5, 4, .ls 4 wh.length), (3, 0, rowE ev), (7, 0, rowE zs)]) e tm2 hp2 :=
  RunsL.next [] 300 [.t true, .r (eventV y), .r (eventV m), .t false, .r (.int .i64 (((j + 1 : Nat) : Int)))]
    (round_of (And.intro hlt (And.intro hij (And.intro (ya_e hj) (And.intro hik (And.intro (ya_e hk) (And.intro hq (And.intro hs True.intro))))))) (by kernel_rfl)) r

set_option maxRecDepth 100000 in
theorem oi_end_true {u fr wh : List Int} {b : List Bool} {ev zs : List Ev} {k j : Nat} (hge : decide ((j : Int) < (ev.length : Int)) = false) : RunsL Tryz.prog 5 5 (loopOf Tryz.prog 6 1) 106 8 ([(1, .pp 5 0), (5, .ls 7 zs.length), (7, .pv (.int .i64 (k : Int))), (8, .pv (.bool true)), (9, .pv (.int .i64 (j : Int)))]) ([(5, 0, .ls 0 u.length), (5, 1, .ls 1 b.length), (5, 2, .ls 2 fr.length), (5, 3, .ls 3 ev.length), (5, 4, .ls 4 wh.length), (3, 0, rowE ev), (7, 0, rowE zs)]) (.exit 2) ([(1, .pp 5 0), (5, .ls 7 zs.length), (7, .pv (.int .i64 (k : Int))), (8, .pv (.bool true))]) ([(5, 0, .ls 0 u.length), (5, 1, .ls 1 b.length), (5, 2, .ls 2 fr.length), (5, 3, .ls 3 ev.length), (5, 4, .ls 4 wh.length), (3, 0, rowE ev), (7, 0, rowE zs)]) :=
  RunsL.stop [] 300 [.t false] (fun h => by cases h)
    (round_of (And.intro hge True.intro) (by kernel_rfl))

set_option maxRecDepth 100000 in
theorem oi_end_false {u fr wh : List Int} {b : List Bool} {ev zs : List Ev} {k j : Nat} (hge : decide ((j : Int) < (ev.length : Int)) = false) : RunsL Tryz.prog 5 5 (loopOf Tryz.prog 6 1) 106 8 ([(1, .pp 5 0), (5, .ls 7 zs.length), (7, .pv (.int .i64 (k : Int))), (8, .pv (.bool false)), (9, .pv (.int .i64 (j : Int)))]) ([(5, 0, .ls 0 u.length), (5, 1, .ls 1 b.length), (5, 2, .ls 2 fr.length), (5, 3, .ls 3 ev.length), (5, 4, .ls 4 wh.length), (3, 0, rowE ev), (7, 0, rowE zs)]) (.exit 2) ([(1, .pp 5 0), (5, .ls 7 zs.length), (7, .pv (.int .i64 (k : Int))), (8, .pv (.bool false))]) ([(5, 0, .ls 0 u.length), (5, 1, .ls 1 b.length), (5, 2, .ls 2 fr.length), (5, 3, .ls 3 ev.length), (5, 4, .ls 4 wh.length), (3, 0, rowE ev), (7, 0, rowE zs)]) :=
  RunsL.stop [] 300 [.t false] (fun h => by cases h)
    (round_of (And.intro hge True.intro) (by kernel_rfl))

set_option maxRecDepth 100000 in
theorem or_first {u fr wh : List Int} {b : List Bool} {ev zs : List Ev} {m : Ev} {k n : Nat} (hk : zs[k]? = some m) (hik : 0 ≤ (k : Int) ∧ (k : Int) < (zs.length : Int)) (hlt : decide ((k : Int) < (zs.length : Int)) = true) (hc : Pure Tryz.prog 33 #[ratioV m.n m.d] (.int .i64 (0))) (h0 : decide ((k : Int) > 0) = false) (r1 : RunsL Tryz.prog 5 5 (loopOf Tryz.prog 6 1) 106 8 ([(1, .pp 5 0), (5, .ls 7 zs.length), (7, .pv (.int .i64 (k : Int))), (8, .pv (.bool false)), (9, .pv (.int .i64 ((0 : Nat) : Int)))]) ([(5, 0, .ls 0 u.length), (5, 1, .ls 1 b.length), (5, 2, .ls 2 fr.length), (5, 3, .ls 3 ev.length), (5, 4, .ls 4 wh.length), (3, 0, rowE ev), (7, 0, rowE zs)]) (.exit 2) ([(1, .pp 5 0), (5, .ls 7 zs.length), (7, .pv (.int .i64 (k : Int))), (8, .pv (.bool true))]) ([(5, 0, .ls 0 u.length), (5, 1, .ls 1 b.length), (5, 2, .ls 2 fr.length), (5, 3, .ls 3 ev.length), (5, 4, .ls 4 wh.length), (3, 0, rowE ev), (7, 0, rowE zs)])) (hs : Value.int .i64 (IntKind.i64.wrap ((k : Int) + 1)) = .int .i64 (((k + 1 : Nat) : Int))) {e : Exit} {tm2 : List (Nat × SV)} {hp2 : List (Nat × Nat × SV)}
    (r : RunsL Tryz.prog 5 5 (loopOf Tryz.prog 6 0) 106 8 ([(1, .pp 5 0), (5, .ls 7 zs.length), (7, .pv (.int .i64 ((k + 1 : Nat) : Int)))]) ([(5, 0, .ls 0 u.length), (5, 1, .ls 1 b.length), (5, 2, .ls 2 fr.length), (5, 3, .ls 3 ev.length), (5, 4, .ls 4 wh.length), (3, 0, rowE ev), (7, 0, rowE zs)]) e tm2 hp2) : RunsL Tryz.prog 5 5 (loopOf Tryz.prog 6 0) 106 8 ([(1, .pp 5 0), (5, .ls 7 zs.length), (7, .pv (.int .i64 (k : Int)))]) ([(5, 0, .ls 0 u.length), (5, 1, .ls 1 b.length), (5, 2, .ls 2 fr.length), (5, 3, .ls 3 ev.length), (5, 4, .ls 4 wh.length), (3, 0, rowE ev), (7, 0, rowE zs)]) e tm2 hp2 :=
  RunsL.next [] 300 [.t true, .r (ratioV m.n m.d), .r (.int .i64 (0)), .k, .t false, .l (.exit 2) ([(1, .pp 5 0), (5, .ls 7 zs.length), (7, .pv (.int .i64 (k : Int))), (8, .pv (.bool false)), (9, .pv (.int .i64 ((0 : Nat) : Int)))]) ([(5, 0, .ls 0 u.length), (5, 1, .ls 1 b.length), (5, 2, .ls 2 fr.length), (5, 3, .ls 3 ev.length), (5, 4, .ls 4 wh.length), (3, 0, rowE ev), (7, 0, rowE zs)]) ([(1, .pp 5 0), (5, .ls 7 zs.length), (7, .pv (.int .i64 (k : Int))), (8, .pv (.bool true))]) ([(5, 0, .ls 0 u.length), (5, 1, .ls 1 b.length), (5, 2, .ls 2 fr.length), (5, 3, .ls 3 ev.length), (5, 4, .ls 4 wh.length), (3, 0, rowE ev), (7, 0, rowE zs)]), .k, .r (.int .i64 (((k + 1 : Nat) : Int)))]
    (round_of (And.intro hlt (And.intro hik (And.intro (ya_f hk) (And.intro hc (And.intro h0 (And.intro (reflT (renN []) ([(1, .pp 5 0), (5, .ls 7 zs.length), (7, .pv (.int .i64 (k : Int))), (8, .pv (.bool false)), (9, .pv (.int .i64 ((0 : Nat) : Int)))])) (And.intro (reflH (renN []) ([(5, 0, .ls 0 u.length), (5, 1, .ls 1 b.length), (5, 2, .ls 2 fr.length), (5, 3, .ls 3 ev.length), (5, 4, .ls 4 wh.length), (3, 0, rowE ev), (7, 0, rowE zs)])) (And.intro r1 (And.intro hs True.intro))))))))) (by kernel_rfl)) r

set_option maxRecDepth 100000 in
theorem or_next {u fr wh : List Int} {b : List Bool} {ev zs : List Ev} {y m : Ev} {k j n : Nat} (hk : zs[k]? = some m) (hik : 0 ≤ (k : Int) ∧ (k : Int) < (zs.length : Int)) (hlt : decide ((k : Int) < (zs.length : Int)) = true) (hc : Pure Tryz.prog 33 #[ratioV m.n m.d] (.int .i64 (0))) (h0 : decide ((k : Int) > 0) = true) (hm : Value.int .i64 (IntKind.i64.wrap ((k : Int) - 1)) = .int .i64 ((j : Int))) (hj : zs[j]? = some y) (hij : 0 ≤ (j : Int) ∧ (j : Int) < (zs.length : Int)) (hl : Pure Tryz.prog 34 #[eventV y, eventV m] (.bool true)) (r1 : RunsL Tryz.prog 5 5 (loopOf Tryz.prog 6 1) 106 8 ([(1, .pp 5 0), (5, .ls 7 zs.length), (7, .pv (.int .i64 (k : Int))), (8, .pv (.bool false)), (9, .pv (.int .i64 ((0 : Nat) : Int)))]) ([(5, 0, .ls 0 u.length), (5, 1, .ls 1 b.length), (5, 2, .ls 2 fr.length), (5, 3, .ls 3 ev.length), (5, 4, .ls 4 wh.length), (3, 0, rowE ev), (7, 0, rowE zs)]) (.exit 2) ([(1, .pp 5 0), (5, .ls 7 zs.length), (7, .pv (.int .i64 (k : Int))), (8, .pv (.bool true))]) ([(5, 0, .ls 0 u.length), (5, 1, .ls 1 b.length), (5, 2, .ls 2 fr.length), (5, 3, .ls 3 ev.length), (5, 4, .ls 4 wh.length), (3, 0, rowE ev), (7, 0, rowE zs)])) (hs : Value.int .i64 (IntKind.i64.wrap ((k : Int) + 1)) = .int .i64 (((k + 1 : Nat) : Int))) {e : Exit} {tm2 : List (Nat × SV)} {hp2 : List (Nat × Nat × SV)}
    (r : RunsL Tryz.prog 5 5 (loopOf Tryz.prog 6 0) 106 8 ([(1, .pp 5 0), (5, .ls 7 zs.length), (7, .pv (.int .i64 ((k + 1 : Nat) : Int)))]) ([(5, 0, .ls 0 u.length), (5, 1, .ls 1 b.length), (5, 2, .ls 2 fr.length), (5, 3, .ls 3 ev.length), (5, 4, .ls 4 wh.length), (3, 0, rowE ev), (7, 0, rowE zs)]) e tm2 hp2) : RunsL Tryz.prog 5 5 (loopOf Tryz.prog 6 0) 106 8 ([(1, .pp 5 0), (5, .ls 7 zs.length), (7, .pv (.int .i64 (k : Int)))]) ([(5, 0, .ls 0 u.length), (5, 1, .ls 1 b.length), (5, 2, .ls 2 fr.length), (5, 3, .ls 3 ev.length), (5, 4, .ls 4 wh.length), (3, 0, rowE ev), (7, 0, rowE zs)]) e tm2 hp2 :=
  RunsL.next [] 300 [.t true, .r (ratioV m.n m.d), .r (.int .i64 (0)), .k, .t true, .r (.int .i64 ((j : Int))), .r (eventV y), .r (eventV m), .r (.bool true), .k, .l (.exit 2) ([(1, .pp 5 0), (5, .ls 7 zs.length), (7, .pv (.int .i64 (k : Int))), (8, .pv (.bool false)), (9, .pv (.int .i64 ((0 : Nat) : Int)))]) ([(5, 0, .ls 0 u.length), (5, 1, .ls 1 b.length), (5, 2, .ls 2 fr.length), (5, 3, .ls 3 ev.length), (5, 4, .ls 4 wh.length), (3, 0, rowE ev), (7, 0, rowE zs)]) ([(1, .pp 5 0), (5, .ls 7 zs.length), (7, .pv (.int .i64 (k : Int))), (8, .pv (.bool true))]) ([(5, 0, .ls 0 u.length), (5, 1, .ls 1 b.length), (5, 2, .ls 2 fr.length), (5, 3, .ls 3 ev.length), (5, 4, .ls 4 wh.length), (3, 0, rowE ev), (7, 0, rowE zs)]), .k, .r (.int .i64 (((k + 1 : Nat) : Int)))]
    (round_of (And.intro hlt (And.intro hik (And.intro (ya_f hk) (And.intro hc (And.intro h0 (And.intro hm (And.intro hij (And.intro (ya_e hj) (And.intro hik (And.intro (ya_e hk) (And.intro hl (And.intro (reflT (renN []) ([(1, .pp 5 0), (5, .ls 7 zs.length), (7, .pv (.int .i64 (k : Int))), (8, .pv (.bool false)), (9, .pv (.int .i64 ((0 : Nat) : Int)))])) (And.intro (reflH (renN []) ([(5, 0, .ls 0 u.length), (5, 1, .ls 1 b.length), (5, 2, .ls 2 fr.length), (5, 3, .ls 3 ev.length), (5, 4, .ls 4 wh.length), (3, 0, rowE ev), (7, 0, rowE zs)])) (And.intro r1 (And.intro hs True.intro))))))))))))))) (by kernel_rfl)) r

set_option maxRecDepth 100000 in
theorem or_end {u fr wh : List Int} {b : List Bool} {ev zs : List Ev} {k : Nat} (hge : decide ((k : Int) < (zs.length : Int)) = false) : RunsL Tryz.prog 5 5 (loopOf Tryz.prog 6 0) 106 8 ([(1, .pp 5 0), (5, .ls 7 zs.length), (7, .pv (.int .i64 (k : Int)))]) ([(5, 0, .ls 0 u.length), (5, 1, .ls 1 b.length), (5, 2, .ls 2 fr.length), (5, 3, .ls 3 ev.length), (5, 4, .ls 4 wh.length), (3, 0, rowE ev), (7, 0, rowE zs)]) (.exit 0) ([]) ([]) :=
  RunsL.stop [] 300 [.t false] (fun h => by cases h)
    (round_of (And.intro hge True.intro) (by kernel_rfl))

set_option maxRecDepth 100000 in
theorem or_none {u fr wh : List Int} {b : List Bool} {ev zs : List Ev} (hfit : FnL Tryz.prog 31 5 [agA u b fr ev wh] [(0, 0, zrI u), (1, 0, zrB b), (2, 0, zrI fr), (3, 0, rowE ev), (4, 0, zrI wh)] (.pv (.bool true)) 0 []) (ht : FnL Tryz.prog 15 5 [agA u b fr ev wh] [(0, 0, zrI u), (1, 0, zrB b), (2, 0, zrI fr), (3, 0, rowE ev), (4, 0, zrI wh)] (.pv (.tuple #[.agg #[.int .i64 0, .int .i64 0, .int .i64 0, .int .i64 0, .int .i64 0], .int .i64 42])) 0 []) (he : FnL Tryz.prog 32 5 [agA u b fr ev wh] [(0, 0, zrI u), (1, 0, zrB b), (2, 0, zrI fr), (3, 0, rowE ev), (4, 0, zrI wh)] (.tu [.one (.ls 5 zs.length), .one (.pv (.bool true))]) 1 [(5, 0, rowE zs)]) (hle : (!((zs.length : Int) == (ev.length : Int))) = false) (hgt : decide ((zs.length : Int) > 0) = false) (r0 : RunsL Tryz.prog 5 5 (loopOf Tryz.prog 6 0) 106 8 ([(1, .pp 5 0), (5, .ls 7 zs.length), (7, .pv (.int .i64 ((0 : Nat) : Int)))]) ([(5, 0, .ls 0 u.length), (5, 1, .ls 1 b.length), (5, 2, .ls 2 fr.length), (5, 3, .ls 3 ev.length), (5, 4, .ls 4 wh.length), (3, 0, rowE ev), (7, 0, rowE zs)]) (.exit 0) ([]) ([])) (hal : FnL Tryz.prog 21 0 [] [] (.pv (.bool true)) 0 []) :
    FnL Tryz.prog 6 5 [agA u b fr ev wh] [(0, 0, zrI u), (1, 0, zrB b), (2, 0, zrI fr), (3, 0, rowE ev), (4, 0, zrI wh)] (.pv (.bool true)) 0 [] :=
  fnl_run 300 [] [.f [0,1,2,3,4] [agA u b fr ev wh] [(0, 0, zrI u), (1, 0, zrB b), (2, 0, zrI fr), (3, 0, rowE ev), (4, 0, zrI wh)] (.pv (.bool true)) 0 [], .k, .f [0,1,2,3,4] [agA u b fr ev wh] [(0, 0, zrI u), (1, 0, zrB b), (2, 0, zrI fr), (3, 0, rowE ev), (4, 0, zrI wh)] (.pv (.tuple #[.agg #[.int .i64 0, .int .i64 0, .int .i64 0, .int .i64 0, .int .i64 0], .int .i64 42])) 0 [], .f [0,1,2,3,4] [agA u b fr ev wh] [(0, 0, zrI u), (1, 0, zrB b), (2, 0, zrI fr), (3, 0, rowE ev), (4, 0, zrI wh)] (.tu [.one (.ls 5 zs.length), .one (.pv (.bool true))]) 1 [(5, 0, rowE zs)], .k, .t false, .k, .t false, .k, .k, .l (.exit 0) ([(1, .pp 5 0), (5, .ls 7 zs.length), (7, .pv (.int .i64 ((0 : Nat) : Int)))]) ([(5, 0, .ls 0 u.length), (5, 1, .ls 1 b.length), (5, 2, .ls 2 fr.length), (5, 3, .ls 3 ev.length), (5, 4, .ls 4 wh.length), (3, 0, rowE ev), (7, 0, rowE zs)]) ([]) ([]), .f [] [] [] (.pv (.bool true)) 0 []]
     True.intro (And.intro hfit (And.intro (Eq.refl (List.map (SV.ren (renU [0,1,2,3,4] 6)) [agA u b fr ev wh])) (And.intro (reflH (renU [0,1,2,3,4] 6) [(0, 0, zrI u), (1, 0, zrB b), (2, 0, zrI fr), (3, 0, rowE ev), (4, 0, zrI wh)]) (And.intro ht (And.intro (Eq.refl (List.map (SV.ren (renU [0,1,2,3,4] 6)) [agA u b fr ev wh])) (And.intro (reflH (renU [0,1,2,3,4] 6) [(0, 0, zrI u), (1, 0, zrB b), (2, 0, zrI fr), (3, 0, rowE ev), (4, 0, zrI wh)]) (And.intro he (And.intro (Eq.refl (List.map (SV.ren (renU [0,1,2,3,4] 7)) [agA u b fr ev wh])) (And.intro (reflH (renU [0,1,2,3,4] 7) [(0, 0, zrI u), (1, 0, zrB b), (2, 0, zrI fr), (3, 0, rowE ev), (4, 0, zrI wh)]) (And.intro hle (And.intro hgt (And.intro (reflT (renN []) ([(1, .pp 5 0), (5, .ls 7 zs.length), (7, .pv (.int .i64 ((0 : Nat) : Int)))])) (And.intro (reflH (renN []) ([(5, 0, .ls 0 u.length), (5, 1, .ls 1 b.length), (5, 2, .ls 2 fr.length), (5, 3, .ls 3 ev.length), (5, 4, .ls 4 wh.length), (3, 0, rowE ev), (7, 0, rowE zs)])) (And.intro r0 (And.intro hal (And.intro (Eq.refl (List.map (SV.ren (renU [] 8)) [])) (And.intro (reflH (renU [] 8) []) True.intro))))))))))))))))) (by kernel_rfl)

set_option maxRecDepth 100000 in
theorem or_some {u fr wh : List Int} {b : List Bool} {ev zs : List Ev} {x : Ev} {k n : Nat} (hfit : FnL Tryz.prog 31 5 [agA u b fr ev wh] [(0, 0, zrI u), (1, 0, zrB b), (2, 0, zrI fr), (3, 0, rowE ev), (4, 0, zrI wh)] (.pv (.bool true)) 0 []) (ht : FnL Tryz.prog 15 5 [agA u b fr ev wh] [(0, 0, zrI u), (1, 0, zrB b), (2, 0, zrI fr), (3, 0, rowE ev), (4, 0, zrI wh)] (.pv (.tuple #[eventV x, .int .i64 0])) 0 []) (he : FnL Tryz.prog 32 5 [agA u b fr ev wh] [(0, 0, zrI u), (1, 0, zrB b), (2, 0, zrI fr), (3, 0, rowE ev), (4, 0, zrI wh)] (.tu [.one (.ls 5 zs.length), .one (.pv (.bool true))]) 1 [(5, 0, rowE zs)]) (hle : (!((zs.length : Int) == (ev.length : Int))) = false) (hgt : decide ((zs.length : Int) > 0) = true) (h0z : zs[0]? = some x) (hi0 : 0 ≤ (0 : Int) ∧ (0 : Int) < (zs.length : Int)) (hne : (!((x.n == x.n && (x.d == x.d && true)) && (x.k == x.k && ((x.i == x.i && (x.w == x.w && true)) && true)))) = false) (r0 : RunsL Tryz.prog 5 5 (loopOf Tryz.prog 6 0) 106 8 ([(1, .pp 5 0), (5, .ls 7 zs.length), (7, .pv (.int .i64 ((0 : Nat) : Int)))]) ([(5, 0, .ls 0 u.length), (5, 1, .ls 1 b.length), (5, 2, .ls 2 fr.length), (5, 3, .ls 3 ev.length), (5, 4, .ls 4 wh.length), (3, 0, rowE ev), (7, 0, rowE zs)]) (.exit 0) ([]) ([])) (hal : FnL Tryz.prog 21 0 [] [] (.pv (.bool true)) 0 []) :
    FnL Tryz.prog 6 5 [agA u b fr ev wh] [(0, 0, zrI u), (1, 0, zrB b), (2, 0, zrI fr), (3, 0, rowE ev), (4, 0, zrI wh)] (.pv (.bool true)) 0 [] :=
  fnl_run 300 [] [.f [0,1,2,3,4] [agA u b fr ev wh] [(0, 0, zrI u), (1, 0, zrB b), (2, 0, zrI fr), (3, 0, rowE ev), (4, 0, zrI wh)] (.pv (.bool true)) 0 [], .k, .f [0,1,2,3,4] [agA u b fr ev wh] [(0, 0, zrI u), (1, 0, zrB b), (2, 0, zrI fr), (3, 0, rowE ev), (4, 0, zrI wh)] (.pv (.tuple #[eventV x, .int .i64 0])) 0 [], .f [0,1,2,3,4] [agA u b fr ev wh] [(0, 0, zrI u), (1, 0, zrB b), (2, 0, zrI fr), (3, 0, rowE ev), (4, 0, zrI wh)] (.tu [.one (.ls 5 zs.length), .one (.pv (.bool true))]) 1 [(5, 0, rowE zs)], .k, .t false, .k, .t true, .k, .k, .r (eventV x), .t false, .l (.exit 0) ([(1, .pp 5 0), (5, .ls 7 zs.length), (7, .pv (.int .i64 ((0 : Nat) : Int)))]) ([(5, 0, .ls 0 u.length), (5, 1, .ls 1 b.length), (5, 2, .ls 2 fr.length), (5, 3, .ls 3 ev.length), (5, 4, .ls 4 wh.length), (3, 0, rowE ev), (7, 0, rowE zs)]) ([]) ([]), .f [] [] [] (.pv (.bool true)) 0 []]
     True.intro (And.intro hfit (And.intro (Eq.refl (List.map (SV.ren (renU [0,1,2,3,4] 6)) [agA u b fr ev wh])) (And.intro (reflH (renU [0,1,2,3,4] 6) [(0, 0, zrI u), (1, 0, zrB b), (2, 0, zrI fr), (3, 0, rowE ev), (4, 0, zrI wh)]) (And.intro ht (And.intro (Eq.refl (List.map (SV.ren (renU [0,1,2,3,4] 6)) [agA u b fr ev wh])) (And.intro (reflH (renU [0,1,2,3,4] 6) [(0, 0, zrI u), (1, 0, zrB b), (2, 0, zrI fr), (3, 0, rowE ev), (4, 0, zrI wh)]) (And.intro he (And.intro (Eq.refl (List.map (SV.ren (renU [0,1,2,3,4] 7)) [agA u b fr ev wh])) (And.intro (reflH (renU [0,1,2,3,4] 7) [(0, 0, zrI u), (1, 0, zrB b), (2, 0, zrI fr), (3, 0, rowE ev), (4, 0, zrI wh)]) (And.intro hle (And.intro hgt (And.intro hi0 (And.intro (ya_e h0z) (And.intro hne (And.intro (reflT (renN []) ([(1, .pp 5 0), (5, .ls 7 zs.length), (7, .pv (.int .i64 ((0 : Nat) : Int)))])) (And.intro (reflH (renN []) ([(5, 0, .ls 0 u.length), (5, 1, .ls 1 b.length), (5, 2, .ls 2 fr.length), (5, 3, .ls 3 ev.length), (5, 4, .ls 4 wh.length), (3, 0, rowE ev), (7, 0, rowE zs)])) (And.intro r0 (And.intro hal (And.intro (Eq.refl (List.map (SV.ren (renU [] 8)) [])) (And.intro (reflH (renU [] 8) []) True.intro)))))))))))))))))))) (by kernel_rfl)

end Go.Proofs.YtclpegneiomakaaGreat

namespace Go.Proofs.YtclpegneiomakaaGreat
open Go.RowKit

abbrev eqE (x y : Ev) : Bool := ((x.n == y.n && (x.d == y.d && true)) && (x.k == y.k && ((x.i == y.i && (x.w == y.w && true)) && true)))
theorem eqE_iff {x y : Ev} : eqE x y = true ↔ x = y := by
  obtain ⟨a, b, c, d, e⟩ := x
  obtain ⟨a', b', c', d', e'⟩ := y
  simp only [eqE, Bool.and_true, Bool.and_eq_true, beq_iff_eq, Ev.mk.injEq]
  constructor
  · rintro ⟨⟨h1, h2⟩, h3, h4, h5⟩; exact ⟨h1, h2, h3, h4, h5⟩
  · rintro ⟨h1, h2, h3, h4, h5⟩; exact ⟨⟨h1, h2⟩, h3, h4, h5⟩
theorem eqE_self (x : Ev) : eqE x x = true := eqE_iff.2 rfl
section
variable {u fr wh : List Int} {b : List Bool} {ev zs : List Ev}
abbrev orH (u : List Int) (b : List Bool) (fr : List Int) (ev : List Ev) (wh : List Int) (zs : List Ev) : List (Nat × Nat × SV) := [(5, 0, .ls 0 u.length), (5, 1, .ls 1 b.length), (5, 2, .ls 2 fr.length), (5, 3, .ls 3 ev.length), (5, 4, .ls 4 wh.length), (3, 0, rowE ev), (7, 0, rowE zs)]
abbrev orT2 (zs : List Ev) (k : Nat) (c : Bool) (j : Nat) : List (Nat × SV) := [(1, .pp 5 0), (5, .ls 7 zs.length), (7, .pv (.int .i64 (k : Int))), (8, .pv (.bool c)), (9, .pv (.int .i64 (j : Int)))]
abbrev orT3 (zs : List Ev) (k : Nat) (c : Bool) : List (Nat × SV) := [(1, .pp 5 0), (5, .ls 7 zs.length), (7, .pv (.int .i64 (k : Int))), (8, .pv (.bool c))]
abbrev orT (zs : List Ev) (k : Nat) : List (Nat × SV) := [(1, .pp 5 0), (5, .ls 7 zs.length), (7, .pv (.int .i64 (k : Int)))]
theorem oi_there (hl : ev.length ≤ 1000000) {k : Nat} : ∀ (d j : Nat), j + d = ev.length → RunsL Tryz.prog 5 5 (loopOf Tryz.prog 6 1) 106 8 (orT2 zs k true j) (orH u b fr ev wh zs) (.exit 2) (orT3 zs k true) (orH u b fr ev wh zs) := by
  intro d
  induction d with
  | zero => intro j hj; exact oi_end_true (decide_eq_false (by omega))
  | succ d ih => intro j hj; exact oi_yes (decide_eq_true (by omega)) (z_succ (by omega)) (ih (j + 1) (by omega))
theorem oi_find (hl : ev.length ≤ 1000000) {k : Nat} {m : Ev} (hk : zs[k]? = some m) : ∀ (d j : Nat), j + d = ev.length → (∃ q, j ≤ q ∧ ev[q]? = some m) → RunsL Tryz.prog 5 5 (loopOf Tryz.prog 6 1) 106 8 (orT2 zs k false j) (orH u b fr ev wh zs) (.exit 2) (orT3 zs k true) (orH u b fr ev wh zs) := by
  have hkl := (List.getElem?_eq_some_iff.1 hk).1
  intro d
  induction d with
  | zero => intro j hj ⟨q, a, c⟩; have := (List.getElem?_eq_some_iff.1 c).1; omega
  | succ d ih =>
    intro j hj ⟨q, a, c⟩
    have hx : ev[j]? = some (ev[j]'(by omega)) := List.getElem?_eq_getElem (by omega)
    generalize ev[j]'(by omega) = y at hx
    cases e : eqE y m
    · refine oi_false (n := 0) (decide_eq_true (by omega)) hx (by omega) hk (by omega) e (z_succ (by omega)) (ih (j + 1) (by omega) ⟨q, ?_, c⟩)
      rcases Nat.lt_or_ge j q with g | g
      · exact g
      · have : j = q := by omega
        subst this
        rw [hx] at c; cases c
        rw [eqE_self] at e; cases e
    · exact oi_true (n := 0) (decide_eq_true (by omega)) hx (by omega) hk (by omega) e (z_succ (by omega)) (oi_there hl d (j + 1) (by omega))
theorem or_loop (hl : ev.length ≤ 1000000) (hz : zs.length ≤ 1000000) (ok : ∀ x ∈ zs, EvOk x) (hin : ∀ x ∈ zs, x ∈ ev) (hp : zs.Pairwise (fun x y => ltE x y = true)) : ∀ (d k : Nat), k + d = zs.length → RunsL Tryz.prog 5 5 (loopOf Tryz.prog 6 0) 106 8 (orT zs k) (orH u b fr ev wh zs) (.exit 0) [] [] := by
  intro d
  induction d with
  | zero => intro k hk; exact or_end (decide_eq_false (by omega))
  | succ d ih =>
    intro k hk
    have hx : zs[k]? = some (zs[k]'(by omega)) := List.getElem?_eq_getElem (by omega)
    generalize hm : zs[k]'(by omega) = m at hx
    have om := ok m (List.mem_of_getElem? hx)
    have hc := RCheck_ok om.i.1 om.i.2 om.ok
    obtain ⟨q, hq⟩ := List.mem_iff_getElem?.1 (hin m (List.mem_of_getElem? hx))
    have r1 := oi_find (u := u) (b := b) (fr := fr) (wh := wh) hl hx ev.length 0 (by omega) ⟨q, by omega, hq⟩
    by_cases h0 : 0 < k
    · have hy : zs[k - 1]? = some (zs[k - 1]'(by omega)) := List.getElem?_eq_getElem (by omega)
      have hlt : ltE (zs[k - 1]'(by omega)) m = true := by
        rw [List.pairwise_iff_getElem] at hp
        rw [← hm]
        exact hp (k - 1) k (by omega) (by omega) (by omega)
      generalize zs[k - 1]'(by omega) = y at hy hlt
      have hl7 := RLess7_any (ok y (List.mem_of_getElem? hy)).i om.i
      rw [hlt] at hl7
      exact or_next (n := 0) (j := k - 1) hx (by omega) (decide_eq_true (by omega)) hc (decide_eq_true (by omega)) (by rw [show (k : Int) - 1 = ((k - 1 : Nat) : Int) by omega]; exact wrapZ (by omega) (by omega)) hy (by omega) hl7 r1 (z_succ (by omega)) (ih (k + 1) (by omega))
    · exact or_first (n := 0) hx (by omega) (decide_eq_true (by omega)) hc (decide_eq_false (by omega)) r1 (z_succ (by omega)) (ih (k + 1) (by omega))
theorem Order_any (hi : ∀ x ∈ ev, EvI x) : FnL Tryz.prog 6 5 [agA u b fr ev wh] (agP u b fr ev wh) (.pv (.bool true)) 0 [] := by
  by_cases h : VA u b fr ev wh
  · have hlen := h.lens
    obtain ⟨z1, z2⟩ := emptyM_spec ev.length h rfl
    have he := Emptied_any h
    have hzl := z1.length_eq
    have hfirst : ∀ x, ev[0]? = some x → (emptyM ev.length ev wh)[0]? = some x := fun x hx => by
      have h0 := (List.getElem?_eq_some_iff.1 hx).1
      obtain ⟨d, hd⟩ : ∃ d, ev.length = d + 1 := ⟨ev.length - 1, by omega⟩
      rw [hd]
      simp [emptyM, hx]
    generalize emptyM ev.length ev wh = zs at *
    have r0 := or_loop (u := u) (b := b) (fr := fr) (ev := ev) (wh := wh) (zs := zs) (by omega) (by omega) (fun x hx => h.ef.ok x (z1.mem_iff.1 hx)) (fun x hx => z1.mem_iff.1 hx) z2 zs.length 0 (by omega)
    rcases Nat.eq_zero_or_pos ev.length with h0 | h0
    · have hev : ev = [] := List.eq_nil_of_length_eq_zero h0
      exact or_none (Fit_yes h) (ATop_none h hev) he (by simp; omega) (decide_eq_false (by omega)) r0 Alive7
    · have hx : ev[0]? = some (ev[0]'h0) := List.getElem?_eq_getElem h0
      generalize ev[0]'h0 = x at hx
      exact or_some (n := 0) (k := 0) (Fit_yes h) (ATop_some h hx) he (by simp; omega) (decide_eq_true (by omega)) (hfirst x hx) (by omega) (by rw [show (!((x.n == x.n && (x.d == x.d && true)) && (x.k == x.k && ((x.i == x.i && (x.w == x.w && true)) && true)))) = !eqE x x from rfl, eqE_self]; rfl) r0 Alive7
  · exact or_unfit (Fit_no hi h) Alive7
theorem order_walk (u fr : List Int) (b : List Bool) (ev : List Ev) (wh : List Int) (hi : ∀ x ∈ ev, EvI x) : FnL Tryz.prog 6 5 [agA u b fr ev wh] (agP u b fr ev wh) (.pv (.bool true)) 0 [] := Order_any hi
end
end Go.Proofs.YtclpegneiomakaaGreat
