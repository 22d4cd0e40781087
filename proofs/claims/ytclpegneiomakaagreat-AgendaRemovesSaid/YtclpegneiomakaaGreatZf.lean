/-
  The reference's functions over tables, path by path. Conditions: none.
-/
import Derived.Test.YtclpegneiomakaaGreatZe
namespace Go.Proofs.YtclpegneiomakaaGreat
open Go.RowKit
theorem ztw_x (a b c : Nat) : SV.ag [.ls 6 (0 + a), .ls 8 (0 + b), .ls 10 (0 + c)] = (SV.ag [.ls 3 a, .ls 4 b, .ls 5 c]).ren (renN [(3, 6), (4, 8), (5, 10)]) := by rw [Nat.zero_add, Nat.zero_add, Nat.zero_add]; rfl
set_option maxRecDepth 100000 in
theorem zg_u {u fr : List Int} {b : List Bool} (gu : decide ((u.length : Int) > 210) = true) :
    FnL Tryz.prog 56 3 [.ag [.ls 0 u.length, .ls 1 b.length, .ls 2 fr.length]] [(0, 0, zrI u), (1, 0, zrB b), (2, 0, zrI fr)] (.pv (.bool true)) 0 [] :=
  fnl_run 300 [] [.t true]
     True.intro (And.intro gu True.intro) (by kernel_rfl)

set_option maxRecDepth 100000 in
theorem zg_b {u fr : List Int} {b : List Bool} (gu : decide ((u.length : Int) > 210) = false) (gb : decide ((b.length : Int) > 210) = true) :
    FnL Tryz.prog 56 3 [.ag [.ls 0 u.length, .ls 1 b.length, .ls 2 fr.length]] [(0, 0, zrI u), (1, 0, zrB b), (2, 0, zrI fr)] (.pv (.bool true)) 0 [] :=
  fnl_run 300 [] [.t false, .t true]
     True.intro (And.intro gu (And.intro gb True.intro)) (by kernel_rfl)

set_option maxRecDepth 100000 in
theorem zg_f {u fr : List Int} {b : List Bool} (gu : decide ((u.length : Int) > 210) = false) (gb : decide ((b.length : Int) > 210) = false) (gf : decide ((fr.length : Int) > 210) = true) :
    FnL Tryz.prog 56 3 [.ag [.ls 0 u.length, .ls 1 b.length, .ls 2 fr.length]] [(0, 0, zrI u), (1, 0, zrB b), (2, 0, zrI fr)] (.pv (.bool true)) 0 [] :=
  fnl_run 300 [] [.t false, .t false, .t true]
     True.intro (And.intro gu (And.intro gb (And.intro gf True.intro))) (by kernel_rfl)

set_option maxRecDepth 100000 in
theorem zg_no {u fr : List Int} {b : List Bool} (gu : decide ((u.length : Int) > 210) = false) (gb : decide ((b.length : Int) > 210) = false) (gf : decide ((fr.length : Int) > 210) = false) :
    FnL Tryz.prog 56 3 [.ag [.ls 0 u.length, .ls 1 b.length, .ls 2 fr.length]] [(0, 0, zrI u), (1, 0, zrB b), (2, 0, zrI fr)] (.pv (.bool false)) 0 [] :=
  fnl_run 300 [] [.t false, .t false, .t false]
     True.intro (And.intro gu (And.intro gb (And.intro gf True.intro))) (by kernel_rfl)

set_option maxRecDepth 100000 in
theorem rck_a {u fr : List Int} {b : List Bool} (h1 : decide ((u.length : Int) < 1) = true) :
    FnL Tryz.prog 45 3 [.ag [.ls 0 u.length, .ls 1 b.length, .ls 2 fr.length]] [(0, 0, zrI u), (1, 0, zrB b), (2, 0, zrI fr)] (.pv (.int .i64 (8))) 0 [] :=
  fnl_run 300 [] [.t true]
     True.intro (And.intro h1 True.intro) (by kernel_rfl)

set_option maxRecDepth 100000 in
theorem rck_b {u fr : List Int} {b : List Bool} (h1 : decide ((u.length : Int) < 1) = false) (h2 : decide ((u.length : Int) > 200) = true) :
    FnL Tryz.prog 45 3 [.ag [.ls 0 u.length, .ls 1 b.length, .ls 2 fr.length]] [(0, 0, zrI u), (1, 0, zrB b), (2, 0, zrI fr)] (.pv (.int .i64 (8))) 0 [] :=
  fnl_run 300 [] [.t false, .t true]
     True.intro (And.intro h1 (And.intro h2 True.intro)) (by kernel_rfl)

set_option maxRecDepth 100000 in
theorem rck_c {u fr : List Int} {b : List Bool} (h1 : decide ((u.length : Int) < 1) = false) (h2 : decide ((u.length : Int) > 200) = false) (h3 : (!((b.length : Int) == (u.length : Int))) = true) :
    FnL Tryz.prog 45 3 [.ag [.ls 0 u.length, .ls 1 b.length, .ls 2 fr.length]] [(0, 0, zrI u), (1, 0, zrB b), (2, 0, zrI fr)] (.pv (.int .i64 (8))) 0 [] :=
  fnl_run 300 [] [.t false, .t false, .t true]
     True.intro (And.intro h1 (And.intro h2 (And.intro h3 True.intro))) (by kernel_rfl)

set_option maxRecDepth 100000 in
theorem rck_d {u fr : List Int} {b : List Bool} (h1 : decide ((u.length : Int) < 1) = false) (h2 : decide ((u.length : Int) > 200) = false) (h3 : (!((b.length : Int) == (u.length : Int))) = false) (h4 : decide ((fr.length : Int) > (u.length : Int)) = true) :
    FnL Tryz.prog 45 3 [.ag [.ls 0 u.length, .ls 1 b.length, .ls 2 fr.length]] [(0, 0, zrI u), (1, 0, zrB b), (2, 0, zrI fr)] (.pv (.int .i64 (8))) 0 [] :=
  fnl_run 300 [] [.t false, .t false, .t false, .t true]
     True.intro (And.intro h1 (And.intro h2 (And.intro h3 (And.intro h4 True.intro)))) (by kernel_rfl)

set_option maxRecDepth 100000 in
theorem rc0_neg {u fr : List Int} {b g : List Bool} {x : Int} {k : Nat} (hf : fr[k]? = some x) (hif : 0 ≤ (k : Int) ∧ (k : Int) < (fr.length : Int)) (hlt : decide ((k : Int) < (fr.length : Int)) = true) (hx0 : decide (x < 0) = true) : RunsL Tryz.prog 3 3 (loopOf Tryz.prog 45 0) 117 5 ([(1, .pp 3 0), (3, .pv (.int .i64 (u.length : Int))), (4, .ls 4 u.length), (5, .pv (.int .i64 (k : Int)))]) ([(3, 0, .ls 0 u.length), (3, 1, .ls 1 b.length), (3, 2, .ls 2 fr.length), (0, 0, zrI u), (1, 0, zrB b), (2, 0, zrI fr), (4, 0, .row 4 1 u.length (zbV g))]) (.ret) ([(2, .pv (.int .i64 8))]) ([]) :=
  RunsL.stop [] 300 [.t true, .r (.int .i64 x), .t true] (fun h => by cases h)
    (round_of (And.intro hlt (And.intro hif (And.intro (za_i hf) (And.intro hx0 True.intro)))) (by kernel_rfl))

set_option maxRecDepth 100000 in
theorem rc0_big {u fr : List Int} {b g : List Bool} {x : Int} {k : Nat} (hf : fr[k]? = some x) (hif : 0 ≤ (k : Int) ∧ (k : Int) < (fr.length : Int)) (hlt : decide ((k : Int) < (fr.length : Int)) = true) (hx0 : decide (x < 0) = false) (hx1 : decide (x ≥ (u.length : Int)) = true) : RunsL Tryz.prog 3 3 (loopOf Tryz.prog 45 0) 117 5 ([(1, .pp 3 0), (3, .pv (.int .i64 (u.length : Int))), (4, .ls 4 u.length), (5, .pv (.int .i64 (k : Int)))]) ([(3, 0, .ls 0 u.length), (3, 1, .ls 1 b.length), (3, 2, .ls 2 fr.length), (0, 0, zrI u), (1, 0, zrB b), (2, 0, zrI fr), (4, 0, .row 4 1 u.length (zbV g))]) (.ret) ([(2, .pv (.int .i64 8))]) ([]) :=
  RunsL.stop [] 300 [.t true, .r (.int .i64 x), .t false, .r (.int .i64 x), .t true] (fun h => by cases h)
    (round_of (And.intro hlt (And.intro hif (And.intro (za_i hf) (And.intro hx0 (And.intro hif (And.intro (za_i hf) (And.intro hx1 True.intro))))))) (by kernel_rfl))

set_option maxRecDepth 100000 in
theorem rc0_twice {u fr : List Int} {b g : List Bool} {x : Int} {k : Nat} (hf : fr[k]? = some x) (hif : 0 ≤ (k : Int) ∧ (k : Int) < (fr.length : Int)) (hlt : decide ((k : Int) < (fr.length : Int)) = true) (hx0 : decide (x < 0) = false) (hx1 : decide (x ≥ (u.length : Int)) = false) (hix : 0 ≤ x ∧ x < (u.length : Int)) (hg : g[x.toNat]? = some true) : RunsL Tryz.prog 3 3 (loopOf Tryz.prog 45 0) 117 5 ([(1, .pp 3 0), (3, .pv (.int .i64 (u.length : Int))), (4, .ls 4 u.length), (5, .pv (.int .i64 (k : Int)))]) ([(3, 0, .ls 0 u.length), (3, 1, .ls 1 b.length), (3, 2, .ls 2 fr.length), (0, 0, zrI u), (1, 0, zrB b), (2, 0, zrI fr), (4, 0, .row 4 1 u.length (zbV g))]) (.ret) ([(2, .pv (.int .i64 8))]) ([]) :=
  RunsL.stop [] 300 [.t true, .r (.int .i64 x), .t false, .r (.int .i64 x), .t false, .r (.int .i64 x), .r (.bool true)] (fun h => by cases h)
    (round_of (And.intro hlt (And.intro hif (And.intro (za_i hf) (And.intro hx0 (And.intro hif (And.intro (za_i hf) (And.intro hx1 (And.intro hif (And.intro (za_i hf) (And.intro hix (And.intro (za_bz hg) True.intro))))))))))) (by kernel_rfl))

set_option maxRecDepth 100000 in
theorem rc0_next {u fr : List Int} {b g : List Bool} {x : Int} {k : Nat} (hf : fr[k]? = some x) (hif : 0 ≤ (k : Int) ∧ (k : Int) < (fr.length : Int)) (hlt : decide ((k : Int) < (fr.length : Int)) = true) (hx0 : decide (x < 0) = false) (hx1 : decide (x ≥ (u.length : Int)) = false) (hix : 0 ≤ x ∧ x < (u.length : Int)) (hg : g[x.toNat]? = some false) (hgl : x.toNat < g.length) (hs : Value.int .i64 (IntKind.i64.wrap ((k : Int) + 1)) = .int .i64 (((k + 1 : Nat) : Int))) {e : Exit} {tm2 : List (Nat × SV)} {hp2 : List (Nat × Nat × SV)}
    (r : RunsL Tryz.prog 3 3 (loopOf Tryz.prog 45 0) 117 5 ([(1, .pp 3 0), (3, .pv (.int .i64 (u.length : Int))), (4, .ls 4 u.length), (5, .pv (.int .i64 ((k + 1 : Nat) : Int)))]) ([(3, 0, .ls 0 u.length), (3, 1, .ls 1 b.length), (3, 2, .ls 2 fr.length), (0, 0, zrI u), (1, 0, zrB b), (2, 0, zrI fr), (4, 0, .row 4 1 u.length (zbV (g.set x.toNat true)))]) e tm2 hp2) : RunsL Tryz.prog 3 3 (loopOf Tryz.prog 45 0) 117 5 ([(1, .pp 3 0), (3, .pv (.int .i64 (u.length : Int))), (4, .ls 4 u.length), (5, .pv (.int .i64 (k : Int)))]) ([(3, 0, .ls 0 u.length), (3, 1, .ls 1 b.length), (3, 2, .ls 2 fr.length), (0, 0, zrI u), (1, 0, zrB b), (2, 0, zrI fr), (4, 0, .row 4 1 u.length (zbV g))]) e tm2 hp2 :=
  RunsL.next [] 300 [.t true, .r (.int .i64 x), .t false, .r (.int .i64 x), .t false, .r (.int .i64 x), .r (.bool false), .r (.int .i64 x), .w (zbV (g.set x.toNat true)), .r (.int .i64 (((k + 1 : Nat) : Int)))]
    (round_of (And.intro hlt (And.intro hif (And.intro (za_i hf) (And.intro hx0 (And.intro hif (And.intro (za_i hf) (And.intro hx1 (And.intro hif (And.intro (za_i hf) (And.intro hix (And.intro (za_bz hg) (And.intro hif (And.intro (za_i hf) (And.intro hix (And.intro (zs_b g x.toNat true hgl) (And.intro (zsb_in g x.toNat hgl) (And.intro hs True.intro))))))))))))))))) (by kernel_rfl)) r

set_option maxRecDepth 100000 in
theorem rc0_end {u fr : List Int} {b g : List Bool} {k : Nat} (hge : decide ((k : Int) < (fr.length : Int)) = false) : RunsL Tryz.prog 3 3 (loopOf Tryz.prog 45 0) 117 5 ([(1, .pp 3 0), (3, .pv (.int .i64 (u.length : Int))), (4, .ls 4 u.length), (5, .pv (.int .i64 (k : Int)))]) ([(3, 0, .ls 0 u.length), (3, 1, .ls 1 b.length), (3, 2, .ls 2 fr.length), (0, 0, zrI u), (1, 0, zrB b), (2, 0, zrI fr), (4, 0, .row 4 1 u.length (zbV g))]) (.exit 0) ([(1, .pp 3 0), (3, .pv (.int .i64 (u.length : Int))), (4, .ls 4 u.length)]) ([(3, 0, .ls 0 u.length), (3, 1, .ls 1 b.length), (3, 2, .ls 2 fr.length), (0, 0, zrI u), (1, 0, zrB b), (2, 0, zrI fr), (4, 0, .row 4 1 u.length (zbV g))]) :=
  RunsL.stop [] 300 [.t false] (fun h => by cases h)
    (round_of (And.intro hge True.intro) (by kernel_rfl))

set_option maxRecDepth 100000 in
theorem rc1_neg {u fr : List Int} {b g : List Bool} {y : Int} {k : Nat} (hu : u[k]? = some y) (hiu : 0 ≤ (k : Int) ∧ (k : Int) < (u.length : Int)) (hlt : decide ((k : Int) < (u.length : Int)) = true) (hy0 : decide (y < 0) = true) : RunsL Tryz.prog 3 3 (loopOf Tryz.prog 45 1) 117 5 ([(1, .pp 3 0), (3, .pv (.int .i64 (u.length : Int))), (4, .ls 4 u.length), (6, .pv (.int .i64 (k : Int)))]) ([(3, 0, .ls 0 u.length), (3, 1, .ls 1 b.length), (3, 2, .ls 2 fr.length), (0, 0, zrI u), (1, 0, zrB b), (2, 0, zrI fr), (4, 0, .row 4 1 u.length (zbV g))]) (.ret) ([(2, .pv (.int .i64 8))]) ([]) :=
  RunsL.stop [] 300 [.t true, .r (.int .i64 y), .t true] (fun h => by cases h)
    (round_of (And.intro hlt (And.intro hiu (And.intro (za_i hu) (And.intro hy0 True.intro)))) (by kernel_rfl))

set_option maxRecDepth 100000 in
theorem rc1_big {u fr : List Int} {b g : List Bool} {y : Int} {k : Nat} (hu : u[k]? = some y) (hiu : 0 ≤ (k : Int) ∧ (k : Int) < (u.length : Int)) (hlt : decide ((k : Int) < (u.length : Int)) = true) (hy0 : decide (y < 0) = false) (hy1 : decide (y > 1000000) = true) : RunsL Tryz.prog 3 3 (loopOf Tryz.prog 45 1) 117 5 ([(1, .pp 3 0), (3, .pv (.int .i64 (u.length : Int))), (4, .ls 4 u.length), (6, .pv (.int .i64 (k : Int)))]) ([(3, 0, .ls 0 u.length), (3, 1, .ls 1 b.length), (3, 2, .ls 2 fr.length), (0, 0, zrI u), (1, 0, zrB b), (2, 0, zrI fr), (4, 0, .row 4 1 u.length (zbV g))]) (.ret) ([(2, .pv (.int .i64 8))]) ([]) :=
  RunsL.stop [] 300 [.t true, .r (.int .i64 y), .t false, .r (.int .i64 y), .t true] (fun h => by cases h)
    (round_of (And.intro hlt (And.intro hiu (And.intro (za_i hu) (And.intro hy0 (And.intro hiu (And.intro (za_i hu) (And.intro hy1 True.intro))))))) (by kernel_rfl))

set_option maxRecDepth 100000 in
theorem rc1_eq_true {u fr : List Int} {b g : List Bool} {y : Int} {k : Nat} (hu : u[k]? = some y) (hiu : 0 ≤ (k : Int) ∧ (k : Int) < (u.length : Int)) (hlt : decide ((k : Int) < (u.length : Int)) = true) (hy0 : decide (y < 0) = false) (hy1 : decide (y > 1000000) = false) (hb : b[k]? = some true) (hib : 0 ≤ (k : Int) ∧ (k : Int) < (b.length : Int)) (hg : g[k]? = some true) : RunsL Tryz.prog 3 3 (loopOf Tryz.prog 45 1) 117 5 ([(1, .pp 3 0), (3, .pv (.int .i64 (u.length : Int))), (4, .ls 4 u.length), (6, .pv (.int .i64 (k : Int)))]) ([(3, 0, .ls 0 u.length), (3, 1, .ls 1 b.length), (3, 2, .ls 2 fr.length), (0, 0, zrI u), (1, 0, zrB b), (2, 0, zrI fr), (4, 0, .row 4 1 u.length (zbV g))]) (.ret) ([(2, .pv (.int .i64 8))]) ([]) :=
  RunsL.stop [] 300 [.t true, .r (.int .i64 y), .t false, .r (.int .i64 y), .t false, .r (.bool true), .r (.bool true), .k] (fun h => by cases h)
    (round_of (And.intro hlt (And.intro hiu (And.intro (za_i hu) (And.intro hy0 (And.intro hiu (And.intro (za_i hu) (And.intro hy1 (And.intro hib (And.intro (za_b hb) (And.intro hiu (And.intro (za_b hg) True.intro))))))))))) (by kernel_rfl))

set_option maxRecDepth 100000 in
theorem rc1_eq_false {u fr : List Int} {b g : List Bool} {y : Int} {k : Nat} (hu : u[k]? = some y) (hiu : 0 ≤ (k : Int) ∧ (k : Int) < (u.length : Int)) (hlt : decide ((k : Int) < (u.length : Int)) = true) (hy0 : decide (y < 0) = false) (hy1 : decide (y > 1000000) = false) (hb : b[k]? = some false) (hib : 0 ≤ (k : Int) ∧ (k : Int) < (b.length : Int)) (hg : g[k]? = some false) : RunsL Tryz.prog 3 3 (loopOf Tryz.prog 45 1) 117 5 ([(1, .pp 3 0), (3, .pv (.int .i64 (u.length : Int))), (4, .ls 4 u.length), (6, .pv (.int .i64 (k : Int)))]) ([(3, 0, .ls 0 u.length), (3, 1, .ls 1 b.length), (3, 2, .ls 2 fr.length), (0, 0, zrI u), (1, 0, zrB b), (2, 0, zrI fr), (4, 0, .row 4 1 u.length (zbV g))]) (.ret) ([(2, .pv (.int .i64 8))]) ([]) :=
  RunsL.stop [] 300 [.t true, .r (.int .i64 y), .t false, .r (.int .i64 y), .t false, .r (.bool false), .r (.bool false), .k] (fun h => by cases h)
    (round_of (And.intro hlt (And.intro hiu (And.intro (za_i hu) (And.intro hy0 (And.intro hiu (And.intro (za_i hu) (And.intro hy1 (And.intro hib (And.intro (za_b hb) (And.intro hiu (And.intro (za_b hg) True.intro))))))))))) (by kernel_rfl))

set_option maxRecDepth 100000 in
theorem rc1_next_f {u fr : List Int} {b g : List Bool} {y : Int} {k : Nat} (hu : u[k]? = some y) (hiu : 0 ≤ (k : Int) ∧ (k : Int) < (u.length : Int)) (hlt : decide ((k : Int) < (u.length : Int)) = true) (hy0 : decide (y < 0) = false) (hy1 : decide (y > 1000000) = false) (hb : b[k]? = some false) (hib : 0 ≤ (k : Int) ∧ (k : Int) < (b.length : Int)) (hg : g[k]? = some true) (hs : Value.int .i64 (IntKind.i64.wrap ((k : Int) + 1)) = .int .i64 (((k + 1 : Nat) : Int))) {e : Exit} {tm2 : List (Nat × SV)} {hp2 : List (Nat × Nat × SV)}
    (r : RunsL Tryz.prog 3 3 (loopOf Tryz.prog 45 1) 117 5 ([(1, .pp 3 0), (3, .pv (.int .i64 (u.length : Int))), (4, .ls 4 u.length), (6, .pv (.int .i64 ((k + 1 : Nat) : Int)))]) ([(3, 0, .ls 0 u.length), (3, 1, .ls 1 b.length), (3, 2, .ls 2 fr.length), (0, 0, zrI u), (1, 0, zrB b), (2, 0, zrI fr), (4, 0, .row 4 1 u.length (zbV g))]) e tm2 hp2) : RunsL Tryz.prog 3 3 (loopOf Tryz.prog 45 1) 117 5 ([(1, .pp 3 0), (3, .pv (.int .i64 (u.length : Int))), (4, .ls 4 u.length), (6, .pv (.int .i64 (k : Int)))]) ([(3, 0, .ls 0 u.length), (3, 1, .ls 1 b.length), (3, 2, .ls 2 fr.length), (0, 0, zrI u), (1, 0, zrB b), (2, 0, zrI fr), (4, 0, .row 4 1 u.length (zbV g))]) e tm2 hp2 :=
  RunsL.next [] 300 [.t true, .r (.int .i64 y), .t false, .r (.int .i64 y), .t false, .r (.bool false), .r (.bool true), .k, .r (.bool false), .r (.int .i64 (((k + 1 : Nat) : Int)))]
    (round_of (And.intro hlt (And.intro hiu (And.intro (za_i hu) (And.intro hy0 (And.intro hiu (And.intro (za_i hu) (And.intro hy1 (And.intro hib (And.intro (za_b hb) (And.intro hiu (And.intro (za_b hg) (And.intro hib (And.intro (za_b hb) (And.intro hs True.intro)))))))))))))) (by kernel_rfl)) r

set_option maxRecDepth 100000 in
theorem rc1_one {u fr : List Int} {b g : List Bool} {y : Int} {k : Nat} (hu : u[k]? = some y) (hiu : 0 ≤ (k : Int) ∧ (k : Int) < (u.length : Int)) (hlt : decide ((k : Int) < (u.length : Int)) = true) (hy0 : decide (y < 0) = false) (hy1 : decide (y > 1000000) = false) (hb : b[k]? = some true) (hib : 0 ≤ (k : Int) ∧ (k : Int) < (b.length : Int)) (hg : g[k]? = some false) (hy2 : decide (y < 1) = true) : RunsL Tryz.prog 3 3 (loopOf Tryz.prog 45 1) 117 5 ([(1, .pp 3 0), (3, .pv (.int .i64 (u.length : Int))), (4, .ls 4 u.length), (6, .pv (.int .i64 (k : Int)))]) ([(3, 0, .ls 0 u.length), (3, 1, .ls 1 b.length), (3, 2, .ls 2 fr.length), (0, 0, zrI u), (1, 0, zrB b), (2, 0, zrI fr), (4, 0, .row 4 1 u.length (zbV g))]) (.ret) ([(2, .pv (.int .i64 8))]) ([]) :=
  RunsL.stop [] 300 [.t true, .r (.int .i64 y), .t false, .r (.int .i64 y), .t false, .r (.bool true), .r (.bool false), .k, .r (.bool true), .r (.int .i64 y), .t true] (fun h => by cases h)
    (round_of (And.intro hlt (And.intro hiu (And.intro (za_i hu) (And.intro hy0 (And.intro hiu (And.intro (za_i hu) (And.intro hy1 (And.intro hib (And.intro (za_b hb) (And.intro hiu (And.intro (za_b hg) (And.intro hib (And.intro (za_b hb) (And.intro hiu (And.intro (za_i hu) (And.intro hy2 True.intro)))))))))))))))) (by kernel_rfl))

set_option maxRecDepth 100000 in
theorem rc1_next_t {u fr : List Int} {b g : List Bool} {y : Int} {k : Nat} (hu : u[k]? = some y) (hiu : 0 ≤ (k : Int) ∧ (k : Int) < (u.length : Int)) (hlt : decide ((k : Int) < (u.length : Int)) = true) (hy0 : decide (y < 0) = false) (hy1 : decide (y > 1000000) = false) (hb : b[k]? = some true) (hib : 0 ≤ (k : Int) ∧ (k : Int) < (b.length : Int)) (hg : g[k]? = some false) (hy2 : decide (y < 1) = false) (hs : Value.int .i64 (IntKind.i64.wrap ((k : Int) + 1)) = .int .i64 (((k + 1 : Nat) : Int))) {e : Exit} {tm2 : List (Nat × SV)} {hp2 : List (Nat × Nat × SV)}
    (r : RunsL Tryz.prog 3 3 (loopOf Tryz.prog 45 1) 117 5 ([(1, .pp 3 0), (3, .pv (.int .i64 (u.length : Int))), (4, .ls 4 u.length), (6, .pv (.int .i64 ((k + 1 : Nat) : Int)))]) ([(3, 0, .ls 0 u.length), (3, 1, .ls 1 b.length), (3, 2, .ls 2 fr.length), (0, 0, zrI u), (1, 0, zrB b), (2, 0, zrI fr), (4, 0, .row 4 1 u.length (zbV g))]) e tm2 hp2) : RunsL Tryz.prog 3 3 (loopOf Tryz.prog 45 1) 117 5 ([(1, .pp 3 0), (3, .pv (.int .i64 (u.length : Int))), (4, .ls 4 u.length), (6, .pv (.int .i64 (k : Int)))]) ([(3, 0, .ls 0 u.length), (3, 1, .ls 1 b.length), (3, 2, .ls 2 fr.length), (0, 0, zrI u), (1, 0, zrB b), (2, 0, zrI fr), (4, 0, .row 4 1 u.length (zbV g))]) e tm2 hp2 :=
  RunsL.next [] 300 [.t true, .r (.int .i64 y), .t false, .r (.int .i64 y), .t false, .r (.bool true), .r (.bool false), .k, .r (.bool true), .r (.int .i64 y), .t false, .r (.int .i64 (((k + 1 : Nat) : Int)))]
    (round_of (And.intro hlt (And.intro hiu (And.intro (za_i hu) (And.intro hy0 (And.intro hiu (And.intro (za_i hu) (And.intro hy1 (And.intro hib (And.intro (za_b hb) (And.intro hiu (And.intro (za_b hg) (And.intro hib (And.intro (za_b hb) (And.intro hiu (And.intro (za_i hu) (And.intro hy2 (And.intro hs True.intro))))))))))))))))) (by kernel_rfl)) r

set_option maxRecDepth 100000 in
theorem rc1_end {u fr : List Int} {b g : List Bool} {k : Nat} (hge : decide ((k : Int) < (u.length : Int)) = false) : RunsL Tryz.prog 3 3 (loopOf Tryz.prog 45 1) 117 5 ([(1, .pp 3 0), (3, .pv (.int .i64 (u.length : Int))), (4, .ls 4 u.length), (6, .pv (.int .i64 (k : Int)))]) ([(3, 0, .ls 0 u.length), (3, 1, .ls 1 b.length), (3, 2, .ls 2 fr.length), (0, 0, zrI u), (1, 0, zrB b), (2, 0, zrI fr), (4, 0, .row 4 1 u.length (zbV g))]) (.exit 2) ([]) ([]) :=
  RunsL.stop [] 300 [.t false] (fun h => by cases h)
    (round_of (And.intro hge True.intro) (by kernel_rfl))

set_option maxRecDepth 100000 in
theorem rck_e {u fr : List Int} {b : List Bool} (h1 : decide ((u.length : Int) < 1) = false) (h2 : decide ((u.length : Int) > 200) = false) (h3 : (!((b.length : Int) == (u.length : Int))) = false) (h4 : decide ((fr.length : Int) > (u.length : Int)) = false) (n0 : 0 ≤ (u.length : Int)) (n1 : (u.length : Int) ≤ 1000000) (r0 : RunsL Tryz.prog 3 3 (loopOf Tryz.prog 45 0) 117 5 ([(1, .pp 3 0), (3, .pv (.int .i64 (u.length : Int))), (4, .ls 4 u.length), (5, .pv (.int .i64 ((0 : Nat) : Int)))]) ([(3, 0, .ls 0 u.length), (3, 1, .ls 1 b.length), (3, 2, .ls 2 fr.length), (0, 0, zrI u), (1, 0, zrB b), (2, 0, zrI fr), (4, 0, .row 4 1 u.length (zbV (List.replicate u.length false)))]) (.ret) ([(2, .pv (.int .i64 8))]) ([])) :
    FnL Tryz.prog 45 3 [.ag [.ls 0 u.length, .ls 1 b.length, .ls 2 fr.length]] [(0, 0, zrI u), (1, 0, zrB b), (2, 0, zrI fr)] (.pv (.int .i64 (8))) 0 [] :=
  fnl_run 300 [] [.t false, .t false, .t false, .t false, .l (.ret) ([(1, .pp 3 0), (3, .pv (.int .i64 (u.length : Int))), (4, .ls 4 u.length), (5, .pv (.int .i64 ((0 : Nat) : Int)))]) ([(3, 0, .ls 0 u.length), (3, 1, .ls 1 b.length), (3, 2, .ls 2 fr.length), (0, 0, zrI u), (1, 0, zrB b), (2, 0, zrI fr), (4, 0, .row 4 1 u.length (zbV (List.replicate u.length false)))]) ([(2, .pv (.int .i64 8))]) ([])]
     True.intro (And.intro h1 (And.intro h2 (And.intro h3 (And.intro h4 (And.intro n0 (And.intro (Eq.refl (u.length : Int)) (And.intro n1 (And.intro (reflT (renN []) ([(1, .pp 3 0), (3, .pv (.int .i64 (u.length : Int))), (4, .ls 4 u.length), (5, .pv (.int .i64 ((0 : Nat) : Int)))])) (And.intro (And.intro (Eq.refl (some (SV.ls 0 u.length))) (And.intro (Eq.refl (some (SV.ls 1 b.length))) (And.intro (Eq.refl (some (SV.ls 2 fr.length))) (And.intro (Eq.refl (some (zrI u))) (And.intro (Eq.refl (some (zrB b))) (And.intro (Eq.refl (some (zrI fr))) (And.intro (zrep_row u.length) True.intro))))))) (And.intro r0 True.intro)))))))))) (by kernel_rfl)

set_option maxRecDepth 100000 in
theorem rck_f {u fr : List Int} {b g : List Bool} (h1 : decide ((u.length : Int) < 1) = false) (h2 : decide ((u.length : Int) > 200) = false) (h3 : (!((b.length : Int) == (u.length : Int))) = false) (h4 : decide ((fr.length : Int) > (u.length : Int)) = false) (n0 : 0 ≤ (u.length : Int)) (n1 : (u.length : Int) ≤ 1000000) (r0 : RunsL Tryz.prog 3 3 (loopOf Tryz.prog 45 0) 117 5 ([(1, .pp 3 0), (3, .pv (.int .i64 (u.length : Int))), (4, .ls 4 u.length), (5, .pv (.int .i64 ((0 : Nat) : Int)))]) ([(3, 0, .ls 0 u.length), (3, 1, .ls 1 b.length), (3, 2, .ls 2 fr.length), (0, 0, zrI u), (1, 0, zrB b), (2, 0, zrI fr), (4, 0, .row 4 1 u.length (zbV (List.replicate u.length false)))]) (.exit 0) ([(1, .pp 3 0), (3, .pv (.int .i64 (u.length : Int))), (4, .ls 4 u.length)]) ([(3, 0, .ls 0 u.length), (3, 1, .ls 1 b.length), (3, 2, .ls 2 fr.length), (0, 0, zrI u), (1, 0, zrB b), (2, 0, zrI fr), (4, 0, .row 4 1 u.length (zbV g))])) (r1 : RunsL Tryz.prog 3 3 (loopOf Tryz.prog 45 1) 117 5 ([(1, .pp 3 0), (3, .pv (.int .i64 (u.length : Int))), (4, .ls 4 u.length), (6, .pv (.int .i64 ((0 : Nat) : Int)))]) ([(3, 0, .ls 0 u.length), (3, 1, .ls 1 b.length), (3, 2, .ls 2 fr.length), (0, 0, zrI u), (1, 0, zrB b), (2, 0, zrI fr), (4, 0, .row 4 1 u.length (zbV g))]) (.ret) ([(2, .pv (.int .i64 8))]) ([])) :
    FnL Tryz.prog 45 3 [.ag [.ls 0 u.length, .ls 1 b.length, .ls 2 fr.length]] [(0, 0, zrI u), (1, 0, zrB b), (2, 0, zrI fr)] (.pv (.int .i64 (8))) 0 [] :=
  fnl_run 300 [] [.t false, .t false, .t false, .t false, .l (.exit 0) ([(1, .pp 3 0), (3, .pv (.int .i64 (u.length : Int))), (4, .ls 4 u.length), (5, .pv (.int .i64 ((0 : Nat) : Int)))]) ([(3, 0, .ls 0 u.length), (3, 1, .ls 1 b.length), (3, 2, .ls 2 fr.length), (0, 0, zrI u), (1, 0, zrB b), (2, 0, zrI fr), (4, 0, .row 4 1 u.length (zbV (List.replicate u.length false)))]) ([(1, .pp 3 0), (3, .pv (.int .i64 (u.length : Int))), (4, .ls 4 u.length)]) ([(3, 0, .ls 0 u.length), (3, 1, .ls 1 b.length), (3, 2, .ls 2 fr.length), (0, 0, zrI u), (1, 0, zrB b), (2, 0, zrI fr), (4, 0, .row 4 1 u.length (zbV g))]), .l (.ret) ([(1, .pp 3 0), (3, .pv (.int .i64 (u.length : Int))), (4, .ls 4 u.length), (6, .pv (.int .i64 ((0 : Nat) : Int)))]) ([(3, 0, .ls 0 u.length), (3, 1, .ls 1 b.length), (3, 2, .ls 2 fr.length), (0, 0, zrI u), (1, 0, zrB b), (2, 0, zrI fr), (4, 0, .row 4 1 u.length (zbV g))]) ([(2, .pv (.int .i64 8))]) ([])]
     True.intro (And.intro h1 (And.intro h2 (And.intro h3 (And.intro h4 (And.intro n0 (And.intro (Eq.refl (u.length : Int)) (And.intro n1 (And.intro (reflT (renN []) ([(1, .pp 3 0), (3, .pv (.int .i64 (u.length : Int))), (4, .ls 4 u.length), (5, .pv (.int .i64 ((0 : Nat) : Int)))])) (And.intro (And.intro (Eq.refl (some (SV.ls 0 u.length))) (And.intro (Eq.refl (some (SV.ls 1 b.length))) (And.intro (Eq.refl (some (SV.ls 2 fr.length))) (And.intro (Eq.refl (some (zrI u))) (And.intro (Eq.refl (some (zrB b))) (And.intro (Eq.refl (some (zrI fr))) (And.intro (zrep_row u.length) True.intro))))))) (And.intro r0 (And.intro (reflT (renN []) ([(1, .pp 3 0), (3, .pv (.int .i64 (u.length : Int))), (4, .ls 4 u.length), (6, .pv (.int .i64 ((0 : Nat) : Int)))])) (And.intro (reflH (renN []) ([(3, 0, .ls 0 u.length), (3, 1, .ls 1 b.length), (3, 2, .ls 2 fr.length), (0, 0, zrI u), (1, 0, zrB b), (2, 0, zrI fr), (4, 0, .row 4 1 u.length (zbV g))])) (And.intro r1 True.intro))))))))))))) (by kernel_rfl)

set_option maxRecDepth 100000 in
theorem rck_ok {u fr : List Int} {b g : List Bool} (h1 : decide ((u.length : Int) < 1) = false) (h2 : decide ((u.length : Int) > 200) = false) (h3 : (!((b.length : Int) == (u.length : Int))) = false) (h4 : decide ((fr.length : Int) > (u.length : Int)) = false) (n0 : 0 ≤ (u.length : Int)) (n1 : (u.length : Int) ≤ 1000000) (r0 : RunsL Tryz.prog 3 3 (loopOf Tryz.prog 45 0) 117 5 ([(1, .pp 3 0), (3, .pv (.int .i64 (u.length : Int))), (4, .ls 4 u.length), (5, .pv (.int .i64 ((0 : Nat) : Int)))]) ([(3, 0, .ls 0 u.length), (3, 1, .ls 1 b.length), (3, 2, .ls 2 fr.length), (0, 0, zrI u), (1, 0, zrB b), (2, 0, zrI fr), (4, 0, .row 4 1 u.length (zbV (List.replicate u.length false)))]) (.exit 0) ([(1, .pp 3 0), (3, .pv (.int .i64 (u.length : Int))), (4, .ls 4 u.length)]) ([(3, 0, .ls 0 u.length), (3, 1, .ls 1 b.length), (3, 2, .ls 2 fr.length), (0, 0, zrI u), (1, 0, zrB b), (2, 0, zrI fr), (4, 0, .row 4 1 u.length (zbV g))])) (r1 : RunsL Tryz.prog 3 3 (loopOf Tryz.prog 45 1) 117 5 ([(1, .pp 3 0), (3, .pv (.int .i64 (u.length : Int))), (4, .ls 4 u.length), (6, .pv (.int .i64 ((0 : Nat) : Int)))]) ([(3, 0, .ls 0 u.length), (3, 1, .ls 1 b.length), (3, 2, .ls 2 fr.length), (0, 0, zrI u), (1, 0, zrB b), (2, 0, zrI fr), (4, 0, .row 4 1 u.length (zbV g))]) (.exit 2) ([]) ([])) :
    FnL Tryz.prog 45 3 [.ag [.ls 0 u.length, .ls 1 b.length, .ls 2 fr.length]] [(0, 0, zrI u), (1, 0, zrB b), (2, 0, zrI fr)] (.pv (.int .i64 (0))) 0 [] :=
  fnl_run 300 [] [.t false, .t false, .t false, .t false, .l (.exit 0) ([(1, .pp 3 0), (3, .pv (.int .i64 (u.length : Int))), (4, .ls 4 u.length), (5, .pv (.int .i64 ((0 : Nat) : Int)))]) ([(3, 0, .ls 0 u.length), (3, 1, .ls 1 b.length), (3, 2, .ls 2 fr.length), (0, 0, zrI u), (1, 0, zrB b), (2, 0, zrI fr), (4, 0, .row 4 1 u.length (zbV (List.replicate u.length false)))]) ([(1, .pp 3 0), (3, .pv (.int .i64 (u.length : Int))), (4, .ls 4 u.length)]) ([(3, 0, .ls 0 u.length), (3, 1, .ls 1 b.length), (3, 2, .ls 2 fr.length), (0, 0, zrI u), (1, 0, zrB b), (2, 0, zrI fr), (4, 0, .row 4 1 u.length (zbV g))]), .l (.exit 2) ([(1, .pp 3 0), (3, .pv (.int .i64 (u.length : Int))), (4, .ls 4 u.length), (6, .pv (.int .i64 ((0 : Nat) : Int)))]) ([(3, 0, .ls 0 u.length), (3, 1, .ls 1 b.length), (3, 2, .ls 2 fr.length), (0, 0, zrI u), (1, 0, zrB b), (2, 0, zrI fr), (4, 0, .row 4 1 u.length (zbV g))]) ([]) ([])]
     True.intro (And.intro h1 (And.intro h2 (And.intro h3 (And.intro h4 (And.intro n0 (And.intro (Eq.refl (u.length : Int)) (And.intro n1 (And.intro (reflT (renN []) ([(1, .pp 3 0), (3, .pv (.int .i64 (u.length : Int))), (4, .ls 4 u.length), (5, .pv (.int .i64 ((0 : Nat) : Int)))])) (And.intro (And.intro (Eq.refl (some (SV.ls 0 u.length))) (And.intro (Eq.refl (some (SV.ls 1 b.length))) (And.intro (Eq.refl (some (SV.ls 2 fr.length))) (And.intro (Eq.refl (some (zrI u))) (And.intro (Eq.refl (some (zrB b))) (And.intro (Eq.refl (some (zrI fr))) (And.intro (zrep_row u.length) True.intro))))))) (And.intro r0 (And.intro (reflT (renN []) ([(1, .pp 3 0), (3, .pv (.int .i64 (u.length : Int))), (4, .ls 4 u.length), (6, .pv (.int .i64 ((0 : Nat) : Int)))])) (And.intro (reflH (renN []) ([(3, 0, .ls 0 u.length), (3, 1, .ls 1 b.length), (3, 2, .ls 2 fr.length), (0, 0, zrI u), (1, 0, zrB b), (2, 0, zrI fr), (4, 0, .row 4 1 u.length (zbV g))])) (And.intro r1 True.intro))))))))))))) (by kernel_rfl)

set_option maxRecDepth 100000 in
theorem rtw {u fr : List Int} {b : List Bool} (nu : 0 + u.length ≤ 1000000) (nb : 0 + b.length ≤ 1000000) (nf : 0 + fr.length ≤ 1000000) :
    FnL Tryz.prog 47 3 [.ag [.ls 0 u.length, .ls 1 b.length, .ls 2 fr.length]] [(0, 0, zrI u), (1, 0, zrB b), (2, 0, zrI fr)] (.ag [.ls 3 u.length, .ls 4 b.length, .ls 5 fr.length]) 3 [(3, 0, zrI u), (4, 0, zrB b), (5, 0, zrI fr)] :=
  fnl_runX 300 [(3, 6), (4, 8), (5, 10)] [.md]
    (ztw_x u.length b.length fr.length) (And.intro (zcl_row 3 u.length (ziV u)) (And.intro (zcl_row 4 b.length (zbV b)) (And.intro (zcl_row 3 fr.length (ziV fr)) True.intro))) (And.intro nu (And.intro nb (And.intro nf True.intro))) (by kernel_rfl)

set_option maxRecDepth 100000 in
theorem rgi {u fr : List Int} {b : List Bool} {hi hw : Int} (ht : FnL Tryz.prog 47 3 [.ag [.ls 0 u.length, .ls 1 b.length, .ls 2 fr.length]] [(0, 0, zrI u), (1, 0, zrB b), (2, 0, zrI fr)] (.ag [.ls 3 u.length, .ls 4 b.length, .ls 5 fr.length]) 3 [(3, 0, zrI u), (4, 0, zrB b), (5, 0, zrI fr)]) (hib : 0 ≤ hi ∧ hi < (b.length : Int)) (hbl : hi.toNat < b.length) (hn : fr.length + 1 ≤ 1000000) :
    FnL Tryz.prog 97 3 [.ag [.ls 0 u.length, .ls 1 b.length, .ls 2 fr.length], .pv (.agg #[.int .i64 hi, .int .i64 hw])] [(0, 0, zrI u), (1, 0, zrB b), (2, 0, zrI fr)] (.ag [.ls 3 u.length, .ls 4 b.length, .ls 5 (fr.length + 1)]) 3 [(3, 0, .row 3 1 u.length (ziV (u))), (4, 0, .row 4 1 b.length (zbV (b.set hi.toNat false))), (5, 0, .row 3 1 (fr.length + 1) (ziV fr ++ [.int .i64 hi]))] :=
  fnl_run 300 [(3, 6), (4, 7), (5, 11)] [.f [0,1,2] [.ag [.ls 0 u.length, .ls 1 b.length, .ls 2 fr.length]] [(0, 0, zrI u), (1, 0, zrB b), (2, 0, zrI fr)] (.ag [.ls 3 u.length, .ls 4 b.length, .ls 5 fr.length]) 3 [(3, 0, zrI u), (4, 0, zrB b), (5, 0, zrI fr)], .w (zbV (b.set hi.toNat false))]
     (reflH (renN [(3, 6), (4, 7), (5, 11)]) [(3, 0, .row 3 1 u.length (ziV (u))), (4, 0, .row 4 1 b.length (zbV (b.set hi.toNat false))), (5, 0, .row 3 1 (fr.length + 1) (ziV fr ++ [.int .i64 hi]))]) (And.intro ht (And.intro (Eq.refl (List.map (SV.ren (renU [0,1,2] 6)) [.ag [.ls 0 u.length, .ls 1 b.length, .ls 2 fr.length]])) (And.intro (reflH (renU [0,1,2] 6) [(0, 0, zrI u), (1, 0, zrB b), (2, 0, zrI fr)]) (And.intro hib (And.intro (zs_b b hi.toNat false hbl) (And.intro (zsb_in b hi.toNat hbl) (And.intro hn True.intro))))))) (by kernel_rfl)

set_option maxRecDepth 100000 in
theorem rli_neg {u fr : List Int} {b : List Bool} {hi hw : Int} (h0 : decide (hi ≥ 0) = false) :
    FnL Tryz.prog 60 3 [.ag [.ls 0 u.length, .ls 1 b.length, .ls 2 fr.length], .pv (.agg #[.int .i64 hi, .int .i64 hw])] [(0, 0, zrI u), (1, 0, zrB b), (2, 0, zrI fr)] (.pv (.bool false)) 0 [] :=
  fnl_run 300 [] [.t false]
     True.intro (And.intro h0 True.intro) (by kernel_rfl)

set_option maxRecDepth 100000 in
theorem rli_big {u fr : List Int} {b : List Bool} {hi hw : Int} (h0 : decide (hi ≥ 0) = true) (h1 : decide (hi < (u.length : Int)) = false) :
    FnL Tryz.prog 60 3 [.ag [.ls 0 u.length, .ls 1 b.length, .ls 2 fr.length], .pv (.agg #[.int .i64 hi, .int .i64 hw])] [(0, 0, zrI u), (1, 0, zrB b), (2, 0, zrI fr)] (.pv (.bool false)) 0 [] :=
  fnl_run 300 [] [.t true, .t false]
     True.intro (And.intro h0 (And.intro h1 True.intro)) (by kernel_rfl)

set_option maxRecDepth 100000 in
theorem rli_free {u fr : List Int} {b : List Bool} {hi hw : Int} (h0 : decide (hi ≥ 0) = true) (h1 : decide (hi < (u.length : Int)) = true) (hib : 0 ≤ hi ∧ hi < (b.length : Int)) (hb : b[hi.toNat]? = some false) :
    FnL Tryz.prog 60 3 [.ag [.ls 0 u.length, .ls 1 b.length, .ls 2 fr.length], .pv (.agg #[.int .i64 hi, .int .i64 hw])] [(0, 0, zrI u), (1, 0, zrB b), (2, 0, zrI fr)] (.pv (.bool false)) 0 [] :=
  fnl_run 300 [] [.t true, .t true, .r (.bool false)]
     True.intro (And.intro h0 (And.intro h1 (And.intro hib (And.intro (za_bz hb) True.intro)))) (by kernel_rfl)

set_option maxRecDepth 100000 in
theorem rli_true {u fr : List Int} {b : List Bool} {y hi hw : Int} (h0 : decide (hi ≥ 0) = true) (h1 : decide (hi < (u.length : Int)) = true) (hib : 0 ≤ hi ∧ hi < (b.length : Int)) (hb : b[hi.toNat]? = some true) (hiu : 0 ≤ hi ∧ hi < (u.length : Int)) (hue : u[hi.toNat]? = some y) (he : (y == hw) = true) :
    FnL Tryz.prog 60 3 [.ag [.ls 0 u.length, .ls 1 b.length, .ls 2 fr.length], .pv (.agg #[.int .i64 hi, .int .i64 hw])] [(0, 0, zrI u), (1, 0, zrB b), (2, 0, zrI fr)] (.pv (.bool true)) 0 [] :=
  fnl_run 300 [] [.t true, .t true, .r (.bool true), .r (.int .i64 y), .t true]
     True.intro (And.intro h0 (And.intro h1 (And.intro hib (And.intro (za_bz hb) (And.intro hiu (And.intro (za_iz hue) (And.intro he True.intro))))))) (by kernel_rfl)

set_option maxRecDepth 100000 in
theorem rli_false {u fr : List Int} {b : List Bool} {y hi hw : Int} (h0 : decide (hi ≥ 0) = true) (h1 : decide (hi < (u.length : Int)) = true) (hib : 0 ≤ hi ∧ hi < (b.length : Int)) (hb : b[hi.toNat]? = some true) (hiu : 0 ≤ hi ∧ hi < (u.length : Int)) (hue : u[hi.toNat]? = some y) (he : (y == hw) = false) :
    FnL Tryz.prog 60 3 [.ag [.ls 0 u.length, .ls 1 b.length, .ls 2 fr.length], .pv (.agg #[.int .i64 hi, .int .i64 hw])] [(0, 0, zrI u), (1, 0, zrB b), (2, 0, zrI fr)] (.pv (.bool false)) 0 [] :=
  fnl_run 300 [] [.t true, .t true, .r (.bool true), .r (.int .i64 y), .t false]
     True.intro (And.intro h0 (And.intro h1 (And.intro hib (And.intro (za_bz hb) (And.intro hiu (And.intro (za_iz hue) (And.intro he True.intro))))))) (by kernel_rfl)

set_option maxRecDepth 100000 in
theorem si_next {l m : List Int} {k : Nat} {x y : Int} (hx : l[k]? = some x) (hy : m[k]? = some y) (hil : 0 ≤ (k : Int) ∧ (k : Int) < (l.length : Int)) (him : 0 ≤ (k : Int) ∧ (k : Int) < (m.length : Int)) (hlt : decide ((k : Int) < (l.length : Int)) = true) (hq : (!(x == y)) = false) (hs : Value.int .i64 (IntKind.i64.wrap ((k : Int) + 1)) = .int .i64 (((k + 1 : Nat) : Int))) {e : Exit} {tm2 : List (Nat × SV)} {hp2 : List (Nat × Nat × SV)}
    (r : RunsL Tryz.prog 2 2 (loopOf Tryz.prog 62 0) 26 2 ([(0, .ls 0 l.length), (1, .ls 1 m.length), (5, .pv (.int .i64 ((k + 1 : Nat) : Int)))]) ([(0, 0, zrI l), (1, 0, zrI m)]) e tm2 hp2) : RunsL Tryz.prog 2 2 (loopOf Tryz.prog 62 0) 26 2 ([(0, .ls 0 l.length), (1, .ls 1 m.length), (5, .pv (.int .i64 (k : Int)))]) ([(0, 0, zrI l), (1, 0, zrI m)]) e tm2 hp2 :=
  RunsL.next [] 300 [.t true, .r (.int .i64 x), .r (.int .i64 y), .t false, .r (.int .i64 (((k + 1 : Nat) : Int)))]
    (round_of (And.intro hlt (And.intro hil (And.intro (za_i hx) (And.intro him (And.intro (za_i hy) (And.intro hq (And.intro hs True.intro))))))) (by kernel_rfl)) r

set_option maxRecDepth 100000 in
theorem si_end {l m : List Int} {k : Nat} (hge : decide ((k : Int) < (l.length : Int)) = false) : RunsL Tryz.prog 2 2 (loopOf Tryz.prog 62 0) 26 2 ([(0, .ls 0 l.length), (1, .ls 1 m.length), (5, .pv (.int .i64 (k : Int)))]) ([(0, 0, zrI l), (1, 0, zrI m)]) (.exit 0) ([]) ([]) :=
  RunsL.stop [] 300 [.t false] (fun h => by cases h)
    (round_of (And.intro hge True.intro) (by kernel_rfl))

set_option maxRecDepth 100000 in
theorem si_true {l m : List Int} (hl : (!((l.length : Int) == (m.length : Int))) = false) (r0 : RunsL Tryz.prog 2 2 (loopOf Tryz.prog 62 0) 26 2 ([(0, .ls 0 l.length), (1, .ls 1 m.length), (5, .pv (.int .i64 ((0 : Nat) : Int)))]) ([(0, 0, zrI l), (1, 0, zrI m)]) (.exit 0) ([]) ([])) :
    FnL Tryz.prog 62 2 [.ls 0 l.length, .ls 1 m.length] [(0, 0, zrI l), (1, 0, zrI m)] (.pv (.bool true)) 0 [] :=
  fnl_run 300 [] [.t false, .l (.exit 0) ([(0, .ls 0 l.length), (1, .ls 1 m.length), (5, .pv (.int .i64 ((0 : Nat) : Int)))]) ([(0, 0, zrI l), (1, 0, zrI m)]) ([]) ([])]
     True.intro (And.intro hl (And.intro (reflT (renN []) ([(0, .ls 0 l.length), (1, .ls 1 m.length), (5, .pv (.int .i64 ((0 : Nat) : Int)))])) (And.intro (reflH (renN []) ([(0, 0, zrI l), (1, 0, zrI m)])) (And.intro r0 True.intro)))) (by kernel_rfl)

set_option maxRecDepth 100000 in
theorem sb_next_true {l m : List Bool} {k : Nat} (hx : l[k]? = some true) (hy : m[k]? = some true) (hil : 0 ≤ (k : Int) ∧ (k : Int) < (l.length : Int)) (him : 0 ≤ (k : Int) ∧ (k : Int) < (m.length : Int)) (hlt : decide ((k : Int) < (l.length : Int)) = true) (hs : Value.int .i64 (IntKind.i64.wrap ((k : Int) + 1)) = .int .i64 (((k + 1 : Nat) : Int))) {e : Exit} {tm2 : List (Nat × SV)} {hp2 : List (Nat × Nat × SV)}
    (r : RunsL Tryz.prog 2 2 (loopOf Tryz.prog 95 0) 26 2 ([(0, .ls 0 l.length), (1, .ls 1 m.length), (5, .pv (.int .i64 ((k + 1 : Nat) : Int)))]) ([(0, 0, zrB l), (1, 0, zrB m)]) e tm2 hp2) : RunsL Tryz.prog 2 2 (loopOf Tryz.prog 95 0) 26 2 ([(0, .ls 0 l.length), (1, .ls 1 m.length), (5, .pv (.int .i64 (k : Int)))]) ([(0, 0, zrB l), (1, 0, zrB m)]) e tm2 hp2 :=
  RunsL.next [] 300 [.t true, .r (.bool true), .r (.bool true), .k, .r (.int .i64 (((k + 1 : Nat) : Int)))]
    (round_of (And.intro hlt (And.intro hil (And.intro (za_b hx) (And.intro him (And.intro (za_b hy) (And.intro hs True.intro)))))) (by kernel_rfl)) r

set_option maxRecDepth 100000 in
theorem sb_next_false {l m : List Bool} {k : Nat} (hx : l[k]? = some false) (hy : m[k]? = some false) (hil : 0 ≤ (k : Int) ∧ (k : Int) < (l.length : Int)) (him : 0 ≤ (k : Int) ∧ (k : Int) < (m.length : Int)) (hlt : decide ((k : Int) < (l.length : Int)) = true) (hs : Value.int .i64 (IntKind.i64.wrap ((k : Int) + 1)) = .int .i64 (((k + 1 : Nat) : Int))) {e : Exit} {tm2 : List (Nat × SV)} {hp2 : List (Nat × Nat × SV)}
    (r : RunsL Tryz.prog 2 2 (loopOf Tryz.prog 95 0) 26 2 ([(0, .ls 0 l.length), (1, .ls 1 m.length), (5, .pv (.int .i64 ((k + 1 : Nat) : Int)))]) ([(0, 0, zrB l), (1, 0, zrB m)]) e tm2 hp2) : RunsL Tryz.prog 2 2 (loopOf Tryz.prog 95 0) 26 2 ([(0, .ls 0 l.length), (1, .ls 1 m.length), (5, .pv (.int .i64 (k : Int)))]) ([(0, 0, zrB l), (1, 0, zrB m)]) e tm2 hp2 :=
  RunsL.next [] 300 [.t true, .r (.bool false), .r (.bool false), .k, .r (.int .i64 (((k + 1 : Nat) : Int)))]
    (round_of (And.intro hlt (And.intro hil (And.intro (za_b hx) (And.intro him (And.intro (za_b hy) (And.intro hs True.intro)))))) (by kernel_rfl)) r

set_option maxRecDepth 100000 in
theorem sb_end {l m : List Bool} {k : Nat} (hge : decide ((k : Int) < (l.length : Int)) = false) : RunsL Tryz.prog 2 2 (loopOf Tryz.prog 95 0) 26 2 ([(0, .ls 0 l.length), (1, .ls 1 m.length), (5, .pv (.int .i64 (k : Int)))]) ([(0, 0, zrB l), (1, 0, zrB m)]) (.exit 0) ([]) ([]) :=
  RunsL.stop [] 300 [.t false] (fun h => by cases h)
    (round_of (And.intro hge True.intro) (by kernel_rfl))

set_option maxRecDepth 100000 in
theorem sb_true {l m : List Bool} (hl : (!((l.length : Int) == (m.length : Int))) = false) (r0 : RunsL Tryz.prog 2 2 (loopOf Tryz.prog 95 0) 26 2 ([(0, .ls 0 l.length), (1, .ls 1 m.length), (5, .pv (.int .i64 ((0 : Nat) : Int)))]) ([(0, 0, zrB l), (1, 0, zrB m)]) (.exit 0) ([]) ([])) :
    FnL Tryz.prog 95 2 [.ls 0 l.length, .ls 1 m.length] [(0, 0, zrB l), (1, 0, zrB m)] (.pv (.bool true)) 0 [] :=
  fnl_run 300 [] [.t false, .l (.exit 0) ([(0, .ls 0 l.length), (1, .ls 1 m.length), (5, .pv (.int .i64 ((0 : Nat) : Int)))]) ([(0, 0, zrB l), (1, 0, zrB m)]) ([]) ([])]
     True.intro (And.intro hl (And.intro (reflT (renN []) ([(0, .ls 0 l.length), (1, .ls 1 m.length), (5, .pv (.int .i64 ((0 : Nat) : Int)))])) (And.intro (reflH (renN []) ([(0, 0, zrB l), (1, 0, zrB m)])) (And.intro r0 True.intro)))) (by kernel_rfl)

set_option maxRecDepth 100000 in
theorem sm_ok {u fr u2 f2 : List Int} {b b2 : List Bool} (hu : FnL Tryz.prog 62 2 [.ls 0 u.length, .ls 1 u2.length] [(0, 0, zrI u), (1, 0, zrI u2)] (.pv (.bool true)) 0 []) (hb : FnL Tryz.prog 95 2 [.ls 0 b.length, .ls 1 b2.length] [(0, 0, zrB b), (1, 0, zrB b2)] (.pv (.bool true)) 0 []) (hf : FnL Tryz.prog 62 2 [.ls 0 fr.length, .ls 1 f2.length] [(0, 0, zrI fr), (1, 0, zrI f2)] (.pv (.bool true)) 0 []) :
    FnL Tryz.prog 61 6 [.ag [.ls 0 u.length, .ls 1 b.length, .ls 2 fr.length], .ag [.ls 3 u2.length, .ls 4 b2.length, .ls 5 f2.length]] [(0, 0, zrI u), (1, 0, zrB b), (2, 0, zrI fr), (3, 0, zrI u2), (4, 0, zrB b2), (5, 0, zrI f2)] (.pv (.bool true)) 0 [] :=
  fnl_run 300 [] [.f [0,3] [.ls 0 u.length, .ls 1 u2.length] [(0, 0, zrI u), (1, 0, zrI u2)] (.pv (.bool true)) 0 [], .f [1,4] [.ls 0 b.length, .ls 1 b2.length] [(0, 0, zrB b), (1, 0, zrB b2)] (.pv (.bool true)) 0 [], .f [2,5] [.ls 0 fr.length, .ls 1 f2.length] [(0, 0, zrI fr), (1, 0, zrI f2)] (.pv (.bool true)) 0 []]
     True.intro (And.intro hu (And.intro (Eq.refl (List.map (SV.ren (renU [0,3] 8)) [.ls 0 u.length, .ls 1 u2.length])) (And.intro (reflH (renU [0,3] 8) [(0, 0, zrI u), (1, 0, zrI u2)]) (And.intro hb (And.intro (Eq.refl (List.map (SV.ren (renU [1,4] 8)) [.ls 0 b.length, .ls 1 b2.length])) (And.intro (reflH (renU [1,4] 8) [(0, 0, zrB b), (1, 0, zrB b2)]) (And.intro hf (And.intro (Eq.refl (List.map (SV.ren (renU [2,5] 8)) [.ls 0 fr.length, .ls 1 f2.length])) (And.intro (reflH (renU [2,5] 8) [(0, 0, zrI fr), (1, 0, zrI f2)]) True.intro))))))))) (by kernel_rfl)

end Go.Proofs.YtclpegneiomakaaGreat
