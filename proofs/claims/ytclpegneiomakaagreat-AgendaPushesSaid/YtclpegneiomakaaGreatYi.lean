/-
  Package agenda's New, path by path. Conditions: none.
-/
import Derived.Test.YtclpegneiomakaaGreatYh
namespace Go.Proofs.YtclpegneiomakaaGreat
open Go.RowKit
set_option maxRecDepth 100000 in
theorem mul_path {x y a b : Int} (h : Pure Tryz.prog 103 #[.int .u64 x, .int .u64 y] (.tuple #[.int .u64 a, .int .u64 b])) : Pure Tryz.prog 69 #[.int .u64 x, .int .u64 y] (.tuple #[.int .u64 a, .int .u64 b]) :=
  pure_runZ (args := [.int .u64 x, .int .u64 y]) 300 [.r (.tuple #[.int .u64 a, .int .u64 b])] (And.intro rfl (And.intro h True.intro)) (by kernel_rfl)

set_option maxRecDepth 100000 in
theorem rp_next {g wv : List Int} {k j n : Nat} (hk0 : 0 ≤ (k : Int)) (hkn : k ≤ n) (hlt : decide ((k : Int) < (n : Int)) = true) (hys : ziV wv = setL (ziV g) ((0 + k) * 1) (List.take (Nat.min k (n - k) * 1) (List.take (k * 1) (List.drop (0 * 1) (ziV g))))) (hpos : 0 < Nat.min k (n - k)) (hin : (0 + k) * 1 + (List.take (Nat.min k (n - k) * 1) (List.take (k * 1) (List.drop (0 * 1) (ziV g)))).length ≤ (ziV g).length) (hs : Value.int .i64 (IntKind.i64.wrap ((k : Int) + ((Nat.min k (n - k) : Nat) : Int))) = .int .i64 ((j : Int))) {e : Exit} {tm2 : List (Nat × SV)} {hp2 : List (Nat × Nat × SV)}
    (r : RunsL Tryz.prog 1 1 (loopOf Tryz.prog 38 0) 48 2 ([(7, .ls 1 n), (8, .pv (.int .i64 (j : Int)))]) ([(1, 0, .row 3 1 n (ziV (wv)))]) e tm2 hp2) : RunsL Tryz.prog 1 1 (loopOf Tryz.prog 38 0) 48 2 ([(7, .ls 1 n), (8, .pv (.int .i64 (k : Int)))]) ([(1, 0, .row 3 1 n (ziV (g)))]) e tm2 hp2 :=
  RunsL.next [] 300 [.t true, .gr, .k, .k, .w (ziV wv), .r (.int .i64 ((j : Int)))]
    (round_of (And.intro hlt (And.intro hk0 (And.intro True.intro (And.intro hkn (And.intro (Nat.le_refl n) (And.intro True.intro (And.intro hk0 (And.intro (Nat.zero_le k) (And.intro hkn (And.intro hys (And.intro hpos (And.intro hin (And.intro hs True.intro))))))))))))) (by kernel_rfl)) r

set_option maxRecDepth 100000 in
theorem rp_end {g : List Int} {k n : Nat} (hge : decide ((k : Int) < (n : Int)) = false) : RunsL Tryz.prog 1 1 (loopOf Tryz.prog 38 0) 48 2 ([(7, .ls 1 n), (8, .pv (.int .i64 (k : Int)))]) ([(1, 0, .row 3 1 n (ziV (g)))]) (.exit 0) ([(7, .ls 1 n)]) ([(1, 0, .row 3 1 n (ziV (g)))]) :=
  RunsL.stop [] 300 [.t false] (fun h => by cases h)
    (round_of (And.intro hge True.intro) (by kernel_rfl))

set_option maxRecDepth 100000 in
theorem rp_path {g wv : List Int} {z : Int} {n : Nat} (h0 : decide ((n : Int) < 0) = false) (hu : Value.int .u64 (IntKind.u64.wrap (n : Int)) = .int .u64 (n : Int)) (hm : Pure Tryz.prog 69 #[.int .u64 1, .int .u64 (n : Int)] (.tuple #[.int .u64 0, .int .u64 (n : Int)])) (hb : decide ((n : Int) > 9223372036854775807) = false) (hi : Value.int .i64 (IntKind.i64.wrap ((n : Int))) = .int .i64 ((n : Int))) (n0 : 0 ≤ (n : Int)) (n1 : (n : Int) ≤ 1000000) (hys : ziV g = setL (repL [Value.int .i64 0] n) (0 * 1) (List.take (Nat.min 1 n * 1) [Value.int .i64 z])) (hpos : 0 < Nat.min 1 n) (hin : 0 * 1 + (List.take (Nat.min 1 n * 1) [Value.int .i64 z]).length ≤ (repL [Value.int .i64 0] n).length) (h1 : SV.pv (goInt (Nat.min 1 n)) = .pv (.int .i64 ((1 : Nat) : Int))) (r0 : RunsL Tryz.prog 1 1 (loopOf Tryz.prog 38 0) 48 2 ([(7, .ls 1 n), (8, .pv (.int .i64 ((1 : Nat) : Int)))]) ([(1, 0, .row 3 1 n (ziV (g)))]) (.exit 0) ([(7, .ls 1 n)]) ([(1, 0, .row 3 1 n (ziV (wv)))])) :
    FnL Tryz.prog 38 1 [.ps 0 0 1 1, .pv (.int .i64 ((n : Int)))] [(0, 0, .pv (.int .i64 z))] (.ls 1 n) 1 [(1, 0, .row 3 1 n (ziV wv))] :=
  fnl_run 300 [(1, 1)] [.t false, .k, .r (.int .u64 (n : Int)), .r (.tuple #[.int .u64 0, .int .u64 (n : Int)]), .k, .t false, .r (.int .i64 ((n : Int))), .w (ziV g), .l (.exit 0) ([(7, .ls 1 n), (8, .pv (.int .i64 ((1 : Nat) : Int)))]) ([(1, 0, .row 3 1 n (ziV (g)))]) ([(7, .ls 1 n)]) ([(1, 0, .row 3 1 n (ziV (wv)))])]
     (reflH (renN [(1, 1)]) [(1, 0, .row 3 1 n (ziV wv))]) (And.intro h0 (And.intro hu (And.intro hm (And.intro hb (And.intro hi (And.intro n0 (And.intro (Eq.refl (n : Int)) (And.intro n1 (And.intro hys (And.intro hpos (And.intro hin (And.intro (And.intro (Eq.refl (SV.ls 1 n)) (And.intro h1 True.intro)) (And.intro (reflH (renN []) ([(1, 0, .row 3 1 n (ziV (g)))])) (And.intro r0 True.intro)))))))))))))) (by kernel_rfl)

set_option maxRecDepth 100000 in
theorem an_bad {z : Int} (hs : FnL Tryz.prog 37 0 [.pv (.int .i64 (z))] [] (.pv (.tuple #[.agg #[.slice none 0 0, .slice none 0 0, .slice none 0 0], .int .i64 2])) 0 []) :
    FnL Tryz.prog 9 0 [.pv (.int .i64 (z))] [] (.pv (.tuple #[.agg #[.slice none 0 0, .slice none 0 0, .slice none 0 0, .slice none 0 0, .slice none 0 0], .int .i64 2])) 0 [] :=
  fnl_run 300 [] [.f [] [.pv (.int .i64 (z))] [] (.pv (.tuple #[.agg #[.slice none 0 0, .slice none 0 0, .slice none 0 0], .int .i64 2])) 0 [], .k]
     True.intro (And.intro hs (And.intro (Eq.refl (List.map (SV.ren (renU [] 1)) [.pv (.int .i64 (z))])) (And.intro (reflH (renU [] 1) []) True.intro))) (by kernel_rfl)

set_option maxRecDepth 100000 in
theorem an_ok {wv f2 : List Int} {n : Nat} (hs : FnL Tryz.prog 37 0 [.pv (.int .i64 ((n : Int)))] [] (.tu [.ag [.ls 0 n, .ls 1 n, .ls 2 n], .one (.pv (.int .i64 0))]) 3 [(0, 0, .row 3 1 n (ziV (List.replicate n 0))), (1, 0, .row 4 1 n (zbV (List.replicate n false))), (2, 0, .row 3 1 n (ziV f2))]) (hr : FnL Tryz.prog 38 1 [.ps 0 0 1 1, .pv (.int .i64 ((n : Int)))] [(0, 0, .pv (.int .i64 (-1)))] (.ls 1 n) 1 [(1, 0, .row 3 1 n (ziV wv))]) :
    FnL Tryz.prog 9 0 [.pv (.int .i64 ((n : Int)))] [] (.tu [.ag [.ls 0 n, .ls 1 n, .ls 2 n, .pv (.slice none 0 0), .ls 3 n], .one (.pv (.int .i64 0))]) 4 [(0, 0, .row 3 1 n (ziV (List.replicate n 0))), (1, 0, .row 4 1 n (zbV (List.replicate n false))), (2, 0, .row 3 1 n (ziV f2)), (3, 0, .row 3 1 n (ziV wv))] :=
  fnl_run 300 [(0, 1), (1, 2), (2, 3), (3, 6)] [.f [] [.pv (.int .i64 ((n : Int)))] [] (.tu [.ag [.ls 0 n, .ls 1 n, .ls 2 n], .one (.pv (.int .i64 0))]) 3 [(0, 0, .row 3 1 n (ziV (List.replicate n 0))), (1, 0, .row 4 1 n (zbV (List.replicate n false))), (2, 0, .row 3 1 n (ziV f2))], .k, .md, .f [5] [.ps 0 0 1 1, .pv (.int .i64 ((n : Int)))] [(0, 0, .pv (.int .i64 (-1)))] (.ls 1 n) 1 [(1, 0, .row 3 1 n (ziV wv))]]
     (reflH (renN [(0, 1), (1, 2), (2, 3), (3, 6)]) [(0, 0, .row 3 1 n (ziV (List.replicate n 0))), (1, 0, .row 4 1 n (zbV (List.replicate n false))), (2, 0, .row 3 1 n (ziV f2)), (3, 0, .row 3 1 n (ziV wv))]) (And.intro hs (And.intro (Eq.refl (List.map (SV.ren (renU [] 1)) [.pv (.int .i64 ((n : Int)))])) (And.intro (reflH (renU [] 1) []) (And.intro hr (And.intro (Eq.refl (List.map (SV.ren (renU [5] 6)) [.ps 0 0 1 1, .pv (.int .i64 ((n : Int)))])) (And.intro (reflH (renU [5] 6) [(0, 0, .pv (.int .i64 (-1)))]) True.intro)))))) (by kernel_rfl)

end Go.Proofs.YtclpegneiomakaaGreat
