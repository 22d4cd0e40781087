/-
  Package slot's functions, path by path. Conditions: none.
-/
import Derived.Test.YtclpegneiomakaaGreatZc
namespace Go.Proofs.YtclpegneiomakaaGreat
open Go.RowKit
theorem zrep_rowi (n : Nat) : some (SV.row 3 1 n (repL [Value.int .i64 0] n)) = some (SV.row 3 1 n (ziV (List.replicate n 0))) := by rw [zrep_i]
theorem zcl_x (n : Nat) : SV.ls 2 (0 + n) = (SV.ls 1 n).ren (renN [(1, 2)]) := by rw [Nat.zero_add]; rfl
theorem zcl_row (e : TypeId) (n : Nat) (xs : List Value) : some (SV.row e 1 (0 + n) ([] ++ xs)) = some (SV.row e 1 n xs) := by rw [Nat.zero_add, List.nil_append]
theorem zcat_x (fr : List Int) : SV.ls 5 (0 + fr.length + 1) = (SV.ls 3 (fr.length + 1)).ren (renN [(3, 5)]) := by rw [Nat.zero_add]; rfl
theorem zcat_row (fr : List Int) (x : Int) : some (SV.row 3 1 (0 + fr.length + 1) ([] ++ ziV fr ++ [.int .i64 x])) = some (SV.row 3 1 (fr.length + 1) (ziV (fr ++ [x]))) := by rw [Nat.zero_add, List.nil_append, ziV_append]; rfl

set_option maxRecDepth 100000 in
theorem nw_bad {x : Int} (hz : Pure Tryz.prog 68 #[.int .i64 (x)] (.bool false)) :
    FnL Tryz.prog 37 0 [.pv (.int .i64 (x))] [] (.pv (.tuple #[.agg #[.slice none 0 0, .slice none 0 0, .slice none 0 0], .int .i64 2])) 0 [] :=
  fnl_run 300 [] [.r (.bool false), .k]
     True.intro (And.intro hz True.intro) (by kernel_rfl)

set_option maxRecDepth 100000 in
theorem nw_next {g : List Int} {k n : Nat} (hg : k < g.length) (hin : 0 ≤ (k : Int) ∧ (k : Int) < (n : Int)) (hlt : decide ((k : Int) < (n : Int)) = true) (h1 : Value.int .i64 (IntKind.i64.wrap ((n : Int) - 1)) = .int .i64 ((n : Int) - 1)) (h2 : Value.int .i64 (IntKind.i64.wrap ((n : Int) - 1 - (k : Int))) = .int .i64 ((n : Int) - 1 - (k : Int))) (hs : Value.int .i64 (IntKind.i64.wrap ((k : Int) + 1)) = .int .i64 (((k + 1 : Nat) : Int))) {e : Exit} {tm2 : List (Nat × SV)} {hp2 : List (Nat × Nat × SV)}
    (r : RunsL Tryz.prog 0 0 (loopOf Tryz.prog 37 0) 31 5 ([(0, .pv (.int .i64 (n : Int))), (2, .pp 0 0), (4, .pp 4 0), (17, .pv (.int .i64 (n : Int))), (18, .pv (.int .i64 ((k + 1 : Nat) : Int)))]) ([(0, 0, .pv (.slice none 0 0)), (0, 1, .pv (.slice none 0 0)), (0, 2, .pv (.slice none 0 0)), (4, 0, .ls 1 n), (4, 1, .ls 2 n), (4, 2, .ls 3 n), (1, 0, .row 3 1 n (ziV (List.replicate n 0))), (2, 0, .row 4 1 n (zbV (List.replicate n false))), (3, 0, .row 3 1 n (ziV (g.set k ((n : Int) - 1 - (k : Int)))))]) e tm2 hp2) : RunsL Tryz.prog 0 0 (loopOf Tryz.prog 37 0) 31 5 ([(0, .pv (.int .i64 (n : Int))), (2, .pp 0 0), (4, .pp 4 0), (17, .pv (.int .i64 (n : Int))), (18, .pv (.int .i64 (k : Int)))]) ([(0, 0, .pv (.slice none 0 0)), (0, 1, .pv (.slice none 0 0)), (0, 2, .pv (.slice none 0 0)), (4, 0, .ls 1 n), (4, 1, .ls 2 n), (4, 2, .ls 3 n), (1, 0, .row 3 1 n (ziV (List.replicate n 0))), (2, 0, .row 4 1 n (zbV (List.replicate n false))), (3, 0, .row 3 1 n (ziV g))]) e tm2 hp2 :=
  RunsL.next [] 300 [.t true, .r (.int .i64 ((n : Int) - 1)), .r (.int .i64 ((n : Int) - 1 - (k : Int))), .w (ziV (g.set k ((n : Int) - 1 - (k : Int)))), .r (.int .i64 (((k + 1 : Nat) : Int)))]
    (round_of (And.intro hlt (And.intro h1 (And.intro h2 (And.intro hin (And.intro (zs_i g k ((n : Int) - 1 - (k : Int)) hg) (And.intro (zsi_in g k hg) (And.intro hs True.intro))))))) (by kernel_rfl)) r

set_option maxRecDepth 100000 in
theorem nw_end {g : List Int} {k n : Nat} (hge : decide ((k : Int) < (n : Int)) = false) : RunsL Tryz.prog 0 0 (loopOf Tryz.prog 37 0) 31 5 ([(0, .pv (.int .i64 (n : Int))), (2, .pp 0 0), (4, .pp 4 0), (17, .pv (.int .i64 (n : Int))), (18, .pv (.int .i64 (k : Int)))]) ([(0, 0, .pv (.slice none 0 0)), (0, 1, .pv (.slice none 0 0)), (0, 2, .pv (.slice none 0 0)), (4, 0, .ls 1 n), (4, 1, .ls 2 n), (4, 2, .ls 3 n), (1, 0, .row 3 1 n (ziV (List.replicate n 0))), (2, 0, .row 4 1 n (zbV (List.replicate n false))), (3, 0, .row 3 1 n (ziV g))]) (.exit 0) ([(2, .pp 0 0), (4, .pp 4 0)]) ([(0, 0, .pv (.slice none 0 0)), (0, 1, .pv (.slice none 0 0)), (0, 2, .pv (.slice none 0 0)), (4, 0, .ls 1 n), (4, 1, .ls 2 n), (4, 2, .ls 3 n), (1, 0, .row 3 1 n (ziV (List.replicate n 0))), (2, 0, .row 4 1 n (zbV (List.replicate n false))), (3, 0, .row 3 1 n (ziV g))]) :=
  RunsL.stop [] 300 [.t false] (fun h => by cases h)
    (round_of (And.intro hge True.intro) (by kernel_rfl))

set_option maxRecDepth 100000 in
theorem nw_ok {g : List Int} {n : Nat} (hz : Pure Tryz.prog 68 #[.int .i64 ((n : Int))] (.bool true)) (n0 : 0 ≤ (n : Int)) (n1 : (n : Int) ≤ 1000000) (r0 : RunsL Tryz.prog 0 0 (loopOf Tryz.prog 37 0) 31 5 ([(0, .pv (.int .i64 (n : Int))), (2, .pp 0 0), (4, .pp 4 0), (17, .pv (.int .i64 (n : Int))), (18, .pv (.int .i64 ((0 : Nat) : Int)))]) ([(0, 0, .pv (.slice none 0 0)), (0, 1, .pv (.slice none 0 0)), (0, 2, .pv (.slice none 0 0)), (4, 0, .ls 1 n), (4, 1, .ls 2 n), (4, 2, .ls 3 n), (1, 0, .row 3 1 n (ziV (List.replicate n 0))), (2, 0, .row 4 1 n (zbV (List.replicate n false))), (3, 0, .row 3 1 n (ziV (List.replicate n 0)))]) (.exit 0) ([(2, .pp 0 0), (4, .pp 4 0)]) ([(0, 0, .pv (.slice none 0 0)), (0, 1, .pv (.slice none 0 0)), (0, 2, .pv (.slice none 0 0)), (4, 0, .ls 1 n), (4, 1, .ls 2 n), (4, 2, .ls 3 n), (1, 0, .row 3 1 n (ziV (List.replicate n 0))), (2, 0, .row 4 1 n (zbV (List.replicate n false))), (3, 0, .row 3 1 n (ziV g))])) :
    FnL Tryz.prog 37 0 [.pv (.int .i64 ((n : Int)))] [] (.tu [.ag [.ls 0 n, .ls 1 n, .ls 2 n], .one (.pv (.int .i64 0))]) 3 [(0, 0, .row 3 1 n (ziV (List.replicate n 0))), (1, 0, .row 4 1 n (zbV (List.replicate n false))), (2, 0, .row 3 1 n (ziV g))] :=
  fnl_run 300 [(0, 1), (1, 2), (2, 3)] [.r (.bool true), .k, .md, .l (.exit 0) ([(0, .pv (.int .i64 (n : Int))), (2, .pp 0 0), (4, .pp 4 0), (17, .pv (.int .i64 (n : Int))), (18, .pv (.int .i64 ((0 : Nat) : Int)))]) ([(0, 0, .pv (.slice none 0 0)), (0, 1, .pv (.slice none 0 0)), (0, 2, .pv (.slice none 0 0)), (4, 0, .ls 1 n), (4, 1, .ls 2 n), (4, 2, .ls 3 n), (1, 0, .row 3 1 n (ziV (List.replicate n 0))), (2, 0, .row 4 1 n (zbV (List.replicate n false))), (3, 0, .row 3 1 n (ziV (List.replicate n 0)))]) ([(2, .pp 0 0), (4, .pp 4 0)]) ([(0, 0, .pv (.slice none 0 0)), (0, 1, .pv (.slice none 0 0)), (0, 2, .pv (.slice none 0 0)), (4, 0, .ls 1 n), (4, 1, .ls 2 n), (4, 2, .ls 3 n), (1, 0, .row 3 1 n (ziV (List.replicate n 0))), (2, 0, .row 4 1 n (zbV (List.replicate n false))), (3, 0, .row 3 1 n (ziV g))])]
     (reflH (renN [(0, 1), (1, 2), (2, 3)]) [(0, 0, .row 3 1 n (ziV (List.replicate n 0))), (1, 0, .row 4 1 n (zbV (List.replicate n false))), (2, 0, .row 3 1 n (ziV g))]) (And.intro hz (And.intro n0 (And.intro (Eq.refl (n : Int)) (And.intro n1 (And.intro n0 (And.intro (Eq.refl (n : Int)) (And.intro n1 (And.intro n0 (And.intro (Eq.refl (n : Int)) (And.intro n1 (And.intro (reflT (renN []) ([(0, .pv (.int .i64 (n : Int))), (2, .pp 0 0), (4, .pp 4 0), (17, .pv (.int .i64 (n : Int))), (18, .pv (.int .i64 ((0 : Nat) : Int)))])) (And.intro (And.intro (Eq.refl (some (SV.pv (.slice none 0 0)))) (And.intro (Eq.refl (some (SV.pv (.slice none 0 0)))) (And.intro (Eq.refl (some (SV.pv (.slice none 0 0)))) (And.intro (Eq.refl (some (SV.ls 1 n))) (And.intro (Eq.refl (some (SV.ls 2 n))) (And.intro (Eq.refl (some (SV.ls 3 n))) (And.intro (zrep_rowi n) (And.intro (zrep_row n) (And.intro (zrep_rowi n) True.intro))))))))) (And.intro r0 True.intro))))))))))))) (by kernel_rfl)

set_option maxRecDepth 100000 in
theorem cli_path {l : List Int} (h0 : 0 < l.length) (hn : 0 + l.length ≤ 1000000) :
    FnL Tryz.prog 77 1 [.ls 0 l.length] [(0, 0, zrI l)] (.ls 1 l.length) 1 [(1, 0, zrI l)] :=
  fnl_runX 300 [(1, 2)] [.t false]
    (zcl_x l.length) (And.intro (zcl_row 3 l.length (ziV l)) True.intro) (And.intro h0 (And.intro hn True.intro)) (by kernel_rfl)
set_option maxRecDepth 100000 in
theorem cli_e {ad : Addr} {c : Nat} :
    FnL Tryz.prog 77 0 [.pv (.slice (some ad) 0 c)] [] (.ls 0 0) 1 [(0, 0, .row 3 1 0 [])] :=
  fnl_run 300 [(0, 1)] [.k]
     (reflH (renN [(0, 1)]) [(0, 0, .row 3 1 0 [])]) (And.intro (Nat.zero_le _ : 0 + 0 ≤ 1000000) True.intro) (by kernel_rfl)
theorem cli_nil {c : Nat} : Pure Tryz.prog 77 #[.slice none 0 c] (.slice none 0 0) :=
  pure_runZ (args := [.slice none 0 c]) 200 [] (And.intro rfl True.intro) (by kernel_rfl)

set_option maxRecDepth 100000 in
theorem clc_path {l : List Int} (h0 : 0 < l.length) (hn : 0 + l.length ≤ 1000000) :
    FnL Tryz.prog 105 1 [.ls 0 l.length] [(0, 0, zrI l)] (.ls 1 l.length) 1 [(1, 0, zrI l)] :=
  fnl_runX 300 [(1, 2)] [.t false]
    (zcl_x l.length) (And.intro (zcl_row 3 l.length (ziV l)) True.intro) (And.intro h0 (And.intro hn True.intro)) (by kernel_rfl)
set_option maxRecDepth 100000 in
theorem clc_e {ad : Addr} {c : Nat} :
    FnL Tryz.prog 105 0 [.pv (.slice (some ad) 0 c)] [] (.ls 0 0) 1 [(0, 0, .row 3 1 0 [])] :=
  fnl_run 300 [(0, 1)] [.k]
     (reflH (renN [(0, 1)]) [(0, 0, .row 3 1 0 [])]) (And.intro (Nat.zero_le _ : 0 + 0 ≤ 1000000) True.intro) (by kernel_rfl)
theorem clc_nil {c : Nat} : Pure Tryz.prog 105 #[.slice none 0 c] (.slice none 0 0) :=
  pure_runZ (args := [.slice none 0 c]) 200 [] (And.intro rfl True.intro) (by kernel_rfl)

set_option maxRecDepth 100000 in
theorem clb_path {l : List Bool} (h0 : 0 < l.length) (hn : 0 + l.length ≤ 1000000) :
    FnL Tryz.prog 106 1 [.ls 0 l.length] [(0, 0, zrB l)] (.ls 1 l.length) 1 [(1, 0, zrB l)] :=
  fnl_runX 300 [(1, 2)] [.t false]
    (zcl_x l.length) (And.intro (zcl_row 4 l.length (zbV l)) True.intro) (And.intro h0 (And.intro hn True.intro)) (by kernel_rfl)
set_option maxRecDepth 100000 in
theorem clb_e {ad : Addr} {c : Nat} :
    FnL Tryz.prog 106 0 [.pv (.slice (some ad) 0 c)] [] (.ls 0 0) 1 [(0, 0, .row 4 1 0 [])] :=
  fnl_run 300 [(0, 1)] [.k]
     (reflH (renN [(0, 1)]) [(0, 0, .row 4 1 0 [])]) (And.intro (Nat.zero_le _ : 0 + 0 ≤ 1000000) True.intro) (by kernel_rfl)
theorem clb_nil {c : Nat} : Pure Tryz.prog 106 #[.slice none 0 c] (.slice none 0 0) :=
  pure_runZ (args := [.slice none 0 c]) 200 [] (And.intro rfl True.intro) (by kernel_rfl)

set_option maxRecDepth 100000 in
theorem wti {l : List Int} {x y : Int} (hin : 0 ≤ x ∧ x < (l.length : Int)) (hl : x.toNat < l.length) (hc : FnL Tryz.prog 105 1 [.ls 0 l.length] [(0, 0, zrI l)] (.ls 1 l.length) 1 [(1, 0, zrI l)]) :
    FnL Tryz.prog 75 1 [.ls 0 l.length, .pv (.int .i64 x), .pv (.int .i64 y)] [(0, 0, zrI l)] (.ls 1 l.length) 1 [(1, 0, .row 3 1 l.length (ziV (l.set x.toNat y)))] :=
  fnl_run 300 [(1, 1)] [.f [0] [.ls 0 l.length] [(0, 0, zrI l)] (.ls 1 l.length) 1 [(1, 0, zrI l)], .w (ziV (l.set x.toNat y))]
     (reflH (renN [(1, 1)]) [(1, 0, .row 3 1 l.length (ziV (l.set x.toNat y)))]) (And.intro hc (And.intro (Eq.refl (List.map (SV.ren (renU [0] 1)) [.ls 0 l.length])) (And.intro (reflH (renU [0] 1) [(0, 0, zrI l)]) (And.intro hin (And.intro (zs_i l x.toNat y hl) (And.intro (zsi_in l x.toNat hl) True.intro)))))) (by kernel_rfl)

set_option maxRecDepth 100000 in
theorem wtb_t {l : List Bool} {x : Int} (hin : 0 ≤ x ∧ x < (l.length : Int)) (hl : x.toNat < l.length) (hc : FnL Tryz.prog 106 1 [.ls 0 l.length] [(0, 0, zrB l)] (.ls 1 l.length) 1 [(1, 0, zrB l)]) :
    FnL Tryz.prog 76 1 [.ls 0 l.length, .pv (.int .i64 x), .pv (.bool true)] [(0, 0, zrB l)] (.ls 1 l.length) 1 [(1, 0, .row 4 1 l.length (zbV (l.set x.toNat true)))] :=
  fnl_run 300 [(1, 1)] [.f [0] [.ls 0 l.length] [(0, 0, zrB l)] (.ls 1 l.length) 1 [(1, 0, zrB l)], .w (zbV (l.set x.toNat true))]
     (reflH (renN [(1, 1)]) [(1, 0, .row 4 1 l.length (zbV (l.set x.toNat true)))]) (And.intro hc (And.intro (Eq.refl (List.map (SV.ren (renU [0] 1)) [.ls 0 l.length])) (And.intro (reflH (renU [0] 1) [(0, 0, zrB l)]) (And.intro hin (And.intro (zs_b l x.toNat true hl) (And.intro (zsb_in l x.toNat hl) True.intro)))))) (by kernel_rfl)

set_option maxRecDepth 100000 in
theorem wtb_f {l : List Bool} {x : Int} (hin : 0 ≤ x ∧ x < (l.length : Int)) (hl : x.toNat < l.length) (hc : FnL Tryz.prog 106 1 [.ls 0 l.length] [(0, 0, zrB l)] (.ls 1 l.length) 1 [(1, 0, zrB l)]) :
    FnL Tryz.prog 76 1 [.ls 0 l.length, .pv (.int .i64 x), .pv (.bool false)] [(0, 0, zrB l)] (.ls 1 l.length) 1 [(1, 0, .row 4 1 l.length (zbV (l.set x.toNat false)))] :=
  fnl_run 300 [(1, 1)] [.f [0] [.ls 0 l.length] [(0, 0, zrB l)] (.ls 1 l.length) 1 [(1, 0, zrB l)], .w (zbV (l.set x.toNat false))]
     (reflH (renN [(1, 1)]) [(1, 0, .row 4 1 l.length (zbV (l.set x.toNat false)))]) (And.intro hc (And.intro (Eq.refl (List.map (SV.ren (renU [0] 1)) [.ls 0 l.length])) (And.intro (reflH (renU [0] 1) [(0, 0, zrB l)]) (And.intro hin (And.intro (zs_b l x.toNat false hl) (And.intro (zsb_in l x.toNat hl) True.intro)))))) (by kernel_rfl)

set_option maxRecDepth 100000 in
theorem zgrow {z : Int} (h0 : decide (z < 0) = false) (hs : Value.int .i64 (IntKind.i64.wrap (z - 0)) = .int .i64 (z)) (hg : decide (z > 0) = true) (a0 : 0 ≤ z) (a1 : z ≤ 1000000) :
    FnL Tryz.prog 121 0 [.pv (.slice none 0 0), .pv (.int .i64 (z))] [] (.ls 0 0) 1 [(0, 0, .row 3 1 0 [])] :=
  fnl_run 300 [(0, 1)] [.t false, .k, .r (.int .i64 (z)), .t true, .w []]
     (reflH (renN [(0, 1)]) [(0, 0, .row 3 1 0 [])]) (And.intro h0 (And.intro hs (And.intro hg (And.intro a0 (And.intro a1 (And.intro (Int.le_refl (0 : Int)) (And.intro (Nat.zero_le z.toNat) True.intro))))))) (by kernel_rfl)

set_option maxRecDepth 100000 in
theorem zcat {fr : List Int} {x : Int} (q1 : Value.int .i64 (IntKind.i64.wrap ((0 : Int) + (fr.length : Int))) = .int .i64 ((fr.length : Int))) (n1 : decide ((fr.length : Int) < 0) = false) (q2 : Value.int .i64 (IntKind.i64.wrap ((fr.length : Int) + 1)) = .int .i64 (((fr.length + 1 : Nat) : Int))) (n2 : decide (((fr.length + 1 : Nat) : Int) < 0) = false) (hgr : FnL Tryz.prog 121 0 [.pv (.slice none 0 0), .pv (.int .i64 (((fr.length + 1 : Nat) : Int)))] [] (.ls 0 0) 1 [(0, 0, .row 3 1 0 [])]) (a1 : 0 + fr.length ≤ 1000000) (a2 : 0 + fr.length + 1 ≤ 1000000) :
    FnL Tryz.prog 110 3 [.ps 2 0 2 2] [(2, 0, .ls 0 fr.length), (2, 1, .ps 1 0 1 1), (1, 0, .pv (.int .i64 x)), (0, 0, zrI fr)] (.ls 3 (fr.length + 1)) 1 [(3, 0, .row 3 1 (fr.length + 1) (ziV (fr ++ [x])))] :=
  fnl_runX 300 [(3, 5)] [.k, .r (.int .i64 ((fr.length : Int))), .t false, .k, .k, .r (.int .i64 (((fr.length + 1 : Nat) : Int))), .t false, .k, .k, .f [] [.pv (.slice none 0 0), .pv (.int .i64 (((fr.length + 1 : Nat) : Int)))] [] (.ls 0 0) 1 [(0, 0, .row 3 1 0 [])], .k, .k, .k, .k, .k]
    (zcat_x fr) (And.intro (zcat_row fr x) True.intro) (And.intro q1 (And.intro n1 (And.intro q2 (And.intro n2 (And.intro hgr (And.intro (Eq.refl (List.map (SV.ren (renU [] 3)) [.pv (.slice none 0 0), .pv (.int .i64 (((fr.length + 1 : Nat) : Int)))])) (And.intro (reflH (renU [] 3) []) (And.intro a1 (And.intro a2 True.intro))))))))) (by kernel_rfl)

set_option maxRecDepth 100000 in
theorem il_out {u fr : List Int} {b : List Bool} {hi hw : Int} (hh : FnL Tryz.prog 114 3 [.ag [.ls 0 u.length, .ls 1 b.length, .ls 2 fr.length], .pv (.int .i64 (hi))] [(0, 0, zrI u), (1, 0, zrB b), (2, 0, zrI fr)] (.pv (.bool false)) 0 []) :
    FnL Tryz.prog 109 3 [.ag [.ls 0 u.length, .ls 1 b.length, .ls 2 fr.length], .pv (.agg #[.int .i64 hi, .int .i64 hw])] [(0, 0, zrI u), (1, 0, zrB b), (2, 0, zrI fr)] (.pv (.bool false)) 0 [] :=
  fnl_run 300 [] [.f [0,1,2] [.ag [.ls 0 u.length, .ls 1 b.length, .ls 2 fr.length], .pv (.int .i64 (hi))] [(0, 0, zrI u), (1, 0, zrB b), (2, 0, zrI fr)] (.pv (.bool false)) 0 []]
     True.intro (And.intro hh (And.intro (Eq.refl (List.map (SV.ren (renU [0,1,2] 5)) [.ag [.ls 0 u.length, .ls 1 b.length, .ls 2 fr.length], .pv (.int .i64 (hi))])) (And.intro (reflH (renU [0,1,2] 5) [(0, 0, zrI u), (1, 0, zrB b), (2, 0, zrI fr)]) True.intro))) (by kernel_rfl)

set_option maxRecDepth 100000 in
theorem il_free {u fr : List Int} {b : List Bool} {hi hw : Int} (hh : FnL Tryz.prog 114 3 [.ag [.ls 0 u.length, .ls 1 b.length, .ls 2 fr.length], .pv (.int .i64 (hi))] [(0, 0, zrI u), (1, 0, zrB b), (2, 0, zrI fr)] (.pv (.bool true)) 0 []) (hib : 0 ≤ hi ∧ hi < (b.length : Int)) (hb : b[hi.toNat]? = some false) :
    FnL Tryz.prog 109 3 [.ag [.ls 0 u.length, .ls 1 b.length, .ls 2 fr.length], .pv (.agg #[.int .i64 hi, .int .i64 hw])] [(0, 0, zrI u), (1, 0, zrB b), (2, 0, zrI fr)] (.pv (.bool false)) 0 [] :=
  fnl_run 300 [] [.f [0,1,2] [.ag [.ls 0 u.length, .ls 1 b.length, .ls 2 fr.length], .pv (.int .i64 (hi))] [(0, 0, zrI u), (1, 0, zrB b), (2, 0, zrI fr)] (.pv (.bool true)) 0 [], .r (.bool false)]
     True.intro (And.intro hh (And.intro (Eq.refl (List.map (SV.ren (renU [0,1,2] 5)) [.ag [.ls 0 u.length, .ls 1 b.length, .ls 2 fr.length], .pv (.int .i64 (hi))])) (And.intro (reflH (renU [0,1,2] 5) [(0, 0, zrI u), (1, 0, zrB b), (2, 0, zrI fr)]) (And.intro hib (And.intro (za_bz hb) True.intro))))) (by kernel_rfl)

set_option maxRecDepth 100000 in
theorem il_true {u fr : List Int} {b : List Bool} {y hi hw : Int} (hh : FnL Tryz.prog 114 3 [.ag [.ls 0 u.length, .ls 1 b.length, .ls 2 fr.length], .pv (.int .i64 (hi))] [(0, 0, zrI u), (1, 0, zrB b), (2, 0, zrI fr)] (.pv (.bool true)) 0 []) (hib : 0 ≤ hi ∧ hi < (b.length : Int)) (hb : b[hi.toNat]? = some true) (hiu : 0 ≤ hi ∧ hi < (u.length : Int)) (hue : u[hi.toNat]? = some y) (he : (y == hw) = true) :
    FnL Tryz.prog 109 3 [.ag [.ls 0 u.length, .ls 1 b.length, .ls 2 fr.length], .pv (.agg #[.int .i64 hi, .int .i64 hw])] [(0, 0, zrI u), (1, 0, zrB b), (2, 0, zrI fr)] (.pv (.bool true)) 0 [] :=
  fnl_run 300 [] [.f [0,1,2] [.ag [.ls 0 u.length, .ls 1 b.length, .ls 2 fr.length], .pv (.int .i64 (hi))] [(0, 0, zrI u), (1, 0, zrB b), (2, 0, zrI fr)] (.pv (.bool true)) 0 [], .r (.bool true), .r (.int .i64 y), .t true]
     True.intro (And.intro hh (And.intro (Eq.refl (List.map (SV.ren (renU [0,1,2] 5)) [.ag [.ls 0 u.length, .ls 1 b.length, .ls 2 fr.length], .pv (.int .i64 (hi))])) (And.intro (reflH (renU [0,1,2] 5) [(0, 0, zrI u), (1, 0, zrB b), (2, 0, zrI fr)]) (And.intro hib (And.intro (za_bz hb) (And.intro hiu (And.intro (za_iz hue) (And.intro he True.intro)))))))) (by kernel_rfl)

set_option maxRecDepth 100000 in
theorem il_false {u fr : List Int} {b : List Bool} {y hi hw : Int} (hh : FnL Tryz.prog 114 3 [.ag [.ls 0 u.length, .ls 1 b.length, .ls 2 fr.length], .pv (.int .i64 (hi))] [(0, 0, zrI u), (1, 0, zrB b), (2, 0, zrI fr)] (.pv (.bool true)) 0 []) (hib : 0 ≤ hi ∧ hi < (b.length : Int)) (hb : b[hi.toNat]? = some true) (hiu : 0 ≤ hi ∧ hi < (u.length : Int)) (hue : u[hi.toNat]? = some y) (he : (y == hw) = false) :
    FnL Tryz.prog 109 3 [.ag [.ls 0 u.length, .ls 1 b.length, .ls 2 fr.length], .pv (.agg #[.int .i64 hi, .int .i64 hw])] [(0, 0, zrI u), (1, 0, zrB b), (2, 0, zrI fr)] (.pv (.bool false)) 0 [] :=
  fnl_run 300 [] [.f [0,1,2] [.ag [.ls 0 u.length, .ls 1 b.length, .ls 2 fr.length], .pv (.int .i64 (hi))] [(0, 0, zrI u), (1, 0, zrB b), (2, 0, zrI fr)] (.pv (.bool true)) 0 [], .r (.bool true), .r (.int .i64 y), .t false]
     True.intro (And.intro hh (And.intro (Eq.refl (List.map (SV.ren (renU [0,1,2] 5)) [.ag [.ls 0 u.length, .ls 1 b.length, .ls 2 fr.length], .pv (.int .i64 (hi))])) (And.intro (reflH (renU [0,1,2] 5) [(0, 0, zrI u), (1, 0, zrB b), (2, 0, zrI fr)]) (And.intro hib (And.intro (za_bz hb) (And.intro hiu (And.intro (za_iz hue) (And.intro he True.intro)))))))) (by kernel_rfl)

set_option maxRecDepth 100000 in
theorem has_bad {u fr : List Int} {b : List Bool} {hi hw : Int} (hc : FnL Tryz.prog 51 3 [.ag [.ls 0 u.length, .ls 1 b.length, .ls 2 fr.length]] [(0, 0, zrI u), (1, 0, zrB b), (2, 0, zrI fr)] (.pv (.int .i64 (8))) 0 []) (he : ((8 : Int) != 0) = true) :
    FnL Tryz.prog 84 3 [.ag [.ls 0 u.length, .ls 1 b.length, .ls 2 fr.length], .pv (.agg #[.int .i64 hi, .int .i64 hw])] [(0, 0, zrI u), (1, 0, zrB b), (2, 0, zrI fr)] (.pv (.tuple #[.bool false, .int .i64 8])) 0 [] :=
  fnl_run 300 [] [.f [0,1,2] [.ag [.ls 0 u.length, .ls 1 b.length, .ls 2 fr.length]] [(0, 0, zrI u), (1, 0, zrB b), (2, 0, zrI fr)] (.pv (.int .i64 (8))) 0 [], .t true]
     True.intro (And.intro hc (And.intro (Eq.refl (List.map (SV.ren (renU [0,1,2] 5)) [.ag [.ls 0 u.length, .ls 1 b.length, .ls 2 fr.length]])) (And.intro (reflH (renU [0,1,2] 5) [(0, 0, zrI u), (1, 0, zrB b), (2, 0, zrI fr)]) (And.intro he True.intro)))) (by kernel_rfl)

set_option maxRecDepth 100000 in
theorem has_true {u fr : List Int} {b : List Bool} {hi hw : Int} (hc : FnL Tryz.prog 51 3 [.ag [.ls 0 u.length, .ls 1 b.length, .ls 2 fr.length]] [(0, 0, zrI u), (1, 0, zrB b), (2, 0, zrI fr)] (.pv (.int .i64 (0))) 0 []) (hl : FnL Tryz.prog 109 3 [.ag [.ls 0 u.length, .ls 1 b.length, .ls 2 fr.length], .pv (.agg #[.int .i64 hi, .int .i64 hw])] [(0, 0, zrI u), (1, 0, zrB b), (2, 0, zrI fr)] (.pv (.bool true)) 0 []) :
    FnL Tryz.prog 84 3 [.ag [.ls 0 u.length, .ls 1 b.length, .ls 2 fr.length], .pv (.agg #[.int .i64 hi, .int .i64 hw])] [(0, 0, zrI u), (1, 0, zrB b), (2, 0, zrI fr)] (.pv (.tuple #[.bool true, .int .i64 0])) 0 [] :=
  fnl_run 300 [] [.f [0,1,2] [.ag [.ls 0 u.length, .ls 1 b.length, .ls 2 fr.length]] [(0, 0, zrI u), (1, 0, zrB b), (2, 0, zrI fr)] (.pv (.int .i64 (0))) 0 [], .k, .f [0,1,2] [.ag [.ls 0 u.length, .ls 1 b.length, .ls 2 fr.length], .pv (.agg #[.int .i64 hi, .int .i64 hw])] [(0, 0, zrI u), (1, 0, zrB b), (2, 0, zrI fr)] (.pv (.bool true)) 0 []]
     True.intro (And.intro hc (And.intro (Eq.refl (List.map (SV.ren (renU [0,1,2] 5)) [.ag [.ls 0 u.length, .ls 1 b.length, .ls 2 fr.length]])) (And.intro (reflH (renU [0,1,2] 5) [(0, 0, zrI u), (1, 0, zrB b), (2, 0, zrI fr)]) (And.intro hl (And.intro (Eq.refl (List.map (SV.ren (renU [0,1,2] 5)) [.ag [.ls 0 u.length, .ls 1 b.length, .ls 2 fr.length], .pv (.agg #[.int .i64 hi, .int .i64 hw])])) (And.intro (reflH (renU [0,1,2] 5) [(0, 0, zrI u), (1, 0, zrB b), (2, 0, zrI fr)]) True.intro)))))) (by kernel_rfl)

set_option maxRecDepth 100000 in
theorem has_false {u fr : List Int} {b : List Bool} {hi hw : Int} (hc : FnL Tryz.prog 51 3 [.ag [.ls 0 u.length, .ls 1 b.length, .ls 2 fr.length]] [(0, 0, zrI u), (1, 0, zrB b), (2, 0, zrI fr)] (.pv (.int .i64 (0))) 0 []) (hl : FnL Tryz.prog 109 3 [.ag [.ls 0 u.length, .ls 1 b.length, .ls 2 fr.length], .pv (.agg #[.int .i64 hi, .int .i64 hw])] [(0, 0, zrI u), (1, 0, zrB b), (2, 0, zrI fr)] (.pv (.bool false)) 0 []) :
    FnL Tryz.prog 84 3 [.ag [.ls 0 u.length, .ls 1 b.length, .ls 2 fr.length], .pv (.agg #[.int .i64 hi, .int .i64 hw])] [(0, 0, zrI u), (1, 0, zrB b), (2, 0, zrI fr)] (.pv (.tuple #[.bool false, .int .i64 0])) 0 [] :=
  fnl_run 300 [] [.f [0,1,2] [.ag [.ls 0 u.length, .ls 1 b.length, .ls 2 fr.length]] [(0, 0, zrI u), (1, 0, zrB b), (2, 0, zrI fr)] (.pv (.int .i64 (0))) 0 [], .k, .f [0,1,2] [.ag [.ls 0 u.length, .ls 1 b.length, .ls 2 fr.length], .pv (.agg #[.int .i64 hi, .int .i64 hw])] [(0, 0, zrI u), (1, 0, zrB b), (2, 0, zrI fr)] (.pv (.bool false)) 0 []]
     True.intro (And.intro hc (And.intro (Eq.refl (List.map (SV.ren (renU [0,1,2] 5)) [.ag [.ls 0 u.length, .ls 1 b.length, .ls 2 fr.length]])) (And.intro (reflH (renU [0,1,2] 5) [(0, 0, zrI u), (1, 0, zrB b), (2, 0, zrI fr)]) (And.intro hl (And.intro (Eq.refl (List.map (SV.ren (renU [0,1,2] 5)) [.ag [.ls 0 u.length, .ls 1 b.length, .ls 2 fr.length], .pv (.agg #[.int .i64 hi, .int .i64 hw])])) (And.intro (reflH (renU [0,1,2] 5) [(0, 0, zrI u), (1, 0, zrB b), (2, 0, zrI fr)]) True.intro)))))) (by kernel_rfl)

set_option maxRecDepth 100000 in
theorem tk_none {u fr : List Int} {b : List Bool} (hc : FnL Tryz.prog 51 3 [.ag [.ls 0 u.length, .ls 1 b.length, .ls 2 fr.length]] [(0, 0, zrI u), (1, 0, zrB b), (2, 0, zrI fr)] (.pv (.int .i64 (0))) 0 []) (hl : Value.int .i64 (IntKind.i64.wrap ((fr.length : Int) - 1)) = .int .i64 (-1)) :
    FnL Tryz.prog 42 3 [.ag [.ls 0 u.length, .ls 1 b.length, .ls 2 fr.length]] [(0, 0, zrI u), (1, 0, zrB b), (2, 0, zrI fr)] (.pv (.tuple #[.agg #[.slice none 0 0, .slice none 0 0, .slice none 0 0], .agg #[.int .i64 0, .int .i64 0], .int .i64 18])) 0 [] :=
  fnl_run 300 [] [.f [0,1,2] [.ag [.ls 0 u.length, .ls 1 b.length, .ls 2 fr.length]] [(0, 0, zrI u), (1, 0, zrB b), (2, 0, zrI fr)] (.pv (.int .i64 (0))) 0 [], .k, .r (.int .i64 (-1)), .k]
     True.intro (And.intro hc (And.intro (Eq.refl (List.map (SV.ren (renU [0,1,2] 6)) [.ag [.ls 0 u.length, .ls 1 b.length, .ls 2 fr.length]])) (And.intro (reflH (renU [0,1,2] 6) [(0, 0, zrI u), (1, 0, zrB b), (2, 0, zrI fr)]) (And.intro hl True.intro)))) (by kernel_rfl)

set_option maxRecDepth 100000 in
theorem tk_worn {u fr : List Int} {b : List Bool} {x y : Int} {m : Nat} (hc : FnL Tryz.prog 51 3 [.ag [.ls 0 u.length, .ls 1 b.length, .ls 2 fr.length]] [(0, 0, zrI u), (1, 0, zrB b), (2, 0, zrI fr)] (.pv (.int .i64 (0))) 0 []) (hl : Value.int .i64 (IntKind.i64.wrap ((fr.length : Int) - 1)) = .int .i64 ((m : Int))) (h0 : decide ((m : Int) < 0) = false) (hm : 0 ≤ (m : Int) ∧ (m : Int) < (fr.length : Int)) (hf : fr[m]? = some x) (hx : 0 ≤ x ∧ x < (u.length : Int)) (hu : u[x.toNat]? = some y) (hy : (y == 1000000) = true) :
    FnL Tryz.prog 42 3 [.ag [.ls 0 u.length, .ls 1 b.length, .ls 2 fr.length]] [(0, 0, zrI u), (1, 0, zrB b), (2, 0, zrI fr)] (.pv (.tuple #[.agg #[.slice none 0 0, .slice none 0 0, .slice none 0 0], .agg #[.int .i64 0, .int .i64 0], .int .i64 18])) 0 [] :=
  fnl_run 300 [] [.f [0,1,2] [.ag [.ls 0 u.length, .ls 1 b.length, .ls 2 fr.length]] [(0, 0, zrI u), (1, 0, zrB b), (2, 0, zrI fr)] (.pv (.int .i64 (0))) 0 [], .k, .r (.int .i64 ((m : Int))), .t false, .r (.int .i64 x), .r (.int .i64 y), .t true]
     True.intro (And.intro hc (And.intro (Eq.refl (List.map (SV.ren (renU [0,1,2] 6)) [.ag [.ls 0 u.length, .ls 1 b.length, .ls 2 fr.length]])) (And.intro (reflH (renU [0,1,2] 6) [(0, 0, zrI u), (1, 0, zrB b), (2, 0, zrI fr)]) (And.intro hl (And.intro h0 (And.intro hm (And.intro (za_i hf) (And.intro hx (And.intro (za_iz hu) (And.intro hy True.intro)))))))))) (by kernel_rfl)

set_option maxRecDepth 100000 in
theorem tk_ok {u fr : List Int} {b : List Bool} {x y z : Int} {m : Nat} (hc : FnL Tryz.prog 51 3 [.ag [.ls 0 u.length, .ls 1 b.length, .ls 2 fr.length]] [(0, 0, zrI u), (1, 0, zrB b), (2, 0, zrI fr)] (.pv (.int .i64 (0))) 0 []) (hl : Value.int .i64 (IntKind.i64.wrap ((fr.length : Int) - 1)) = .int .i64 ((m : Int))) (h0 : decide ((m : Int) < 0) = false) (hm : 0 ≤ (m : Int) ∧ (m : Int) < (fr.length : Int)) (hf : fr[m]? = some x) (hx : 0 ≤ x ∧ x < (u.length : Int)) (hu : u[x.toNat]? = some y) (hy : (y == 1000000) = false) (h1 : Value.int .i64 (IntKind.i64.wrap (y + 1)) = .int .i64 (z)) (w1 : FnL Tryz.prog 75 1 [.ls 0 u.length, .pv (.int .i64 x), .pv (.int .i64 z)] [(0, 0, zrI u)] (.ls 1 u.length) 1 [(1, 0, .row 3 1 u.length (ziV (u.set x.toNat z)))]) (w2 : FnL Tryz.prog 76 1 [.ls 0 b.length, .pv (.int .i64 x), .pv (.bool true)] [(0, 0, zrB b)] (.ls 1 b.length) 1 [(1, 0, .row 4 1 b.length (zbV (b.set x.toNat true)))]) (hml : m ≤ fr.length) (w3 : FnL Tryz.prog 77 1 [.lq 0 1 0 m] [(0, 0, zrI fr)] (.ls 1 m) 1 [(1, 0, .row 3 1 m (ziV (fr.take m)))]) :
    FnL Tryz.prog 42 3 [.ag [.ls 0 u.length, .ls 1 b.length, .ls 2 fr.length]] [(0, 0, zrI u), (1, 0, zrB b), (2, 0, zrI fr)] (.tu [.ag [.ls 3 u.length, .ls 4 b.length, .ls 5 m], .one (.pv (.agg #[.int .i64 x, .int .i64 z])), .one (.pv (.int .i64 0))]) 3 [(3, 0, .row 3 1 u.length (ziV (u.set x.toNat z))), (4, 0, .row 4 1 b.length (zbV (b.set x.toNat true))), (5, 0, .row 3 1 m (ziV (fr.take m)))] :=
  fnl_run 300 [(3, 7), (4, 8), (5, 9)] [.f [0,1,2] [.ag [.ls 0 u.length, .ls 1 b.length, .ls 2 fr.length]] [(0, 0, zrI u), (1, 0, zrB b), (2, 0, zrI fr)] (.pv (.int .i64 (0))) 0 [], .k, .r (.int .i64 ((m : Int))), .t false, .r (.int .i64 x), .r (.int .i64 y), .t false, .r (.int .i64 x), .r (.int .i64 x), .r (.int .i64 y), .r (.int .i64 (z)), .md, .f [0] [.ls 0 u.length, .pv (.int .i64 x), .pv (.int .i64 z)] [(0, 0, zrI u)] (.ls 1 u.length) 1 [(1, 0, .row 3 1 u.length (ziV (u.set x.toNat z)))], .f [1] [.ls 0 b.length, .pv (.int .i64 x), .pv (.bool true)] [(0, 0, zrB b)] (.ls 1 b.length) 1 [(1, 0, .row 4 1 b.length (zbV (b.set x.toNat true)))], .k, .f [2] [.lq 0 1 0 m] [(0, 0, zrI fr)] (.ls 1 m) 1 [(1, 0, .row 3 1 m (ziV (fr.take m)))]]
     (reflH (renN [(3, 7), (4, 8), (5, 9)]) [(3, 0, .row 3 1 u.length (ziV (u.set x.toNat z))), (4, 0, .row 4 1 b.length (zbV (b.set x.toNat true))), (5, 0, .row 3 1 m (ziV (fr.take m)))]) (And.intro hc (And.intro (Eq.refl (List.map (SV.ren (renU [0,1,2] 6)) [.ag [.ls 0 u.length, .ls 1 b.length, .ls 2 fr.length]])) (And.intro (reflH (renU [0,1,2] 6) [(0, 0, zrI u), (1, 0, zrB b), (2, 0, zrI fr)]) (And.intro hl (And.intro h0 (And.intro hm (And.intro (za_i hf) (And.intro hx (And.intro (za_iz hu) (And.intro hy (And.intro hm (And.intro (za_i hf) (And.intro hm (And.intro (za_i hf) (And.intro hx (And.intro (za_iz hu) (And.intro h1 (And.intro w1 (And.intro (Eq.refl (List.map (SV.ren (renU [0] 7)) [.ls 0 u.length, .pv (.int .i64 x), .pv (.int .i64 z)])) (And.intro (reflH (renU [0] 7) [(0, 0, zrI u)]) (And.intro w2 (And.intro (Eq.refl (List.map (SV.ren (renU [1] 8)) [.ls 0 b.length, .pv (.int .i64 x), .pv (.bool true)])) (And.intro (reflH (renU [1] 8) [(0, 0, zrB b)]) (And.intro True.intro (And.intro (Int.natCast_nonneg m) (And.intro (Nat.zero_le m) (And.intro hml (And.intro w3 (And.intro (Eq.refl (List.map (SV.ren (renU [2] 9)) [.lq 0 1 0 m])) (And.intro (reflH (renU [2] 9) [(0, 0, zrI fr)]) True.intro)))))))))))))))))))))))))))))) (by kernel_rfl)

set_option maxRecDepth 100000 in
theorem gv_ok {u fr : List Int} {b : List Bool} {hi hw : Int} (hc : FnL Tryz.prog 51 3 [.ag [.ls 0 u.length, .ls 1 b.length, .ls 2 fr.length]] [(0, 0, zrI u), (1, 0, zrB b), (2, 0, zrI fr)] (.pv (.int .i64 (0))) 0 []) (hl : FnL Tryz.prog 109 3 [.ag [.ls 0 u.length, .ls 1 b.length, .ls 2 fr.length], .pv (.agg #[.int .i64 hi, .int .i64 hw])] [(0, 0, zrI u), (1, 0, zrB b), (2, 0, zrI fr)] (.pv (.bool true)) 0 []) (w1 : FnL Tryz.prog 77 1 [.ls 0 u.length] [(0, 0, zrI u)] (.ls 1 u.length) 1 [(1, 0, zrI u)]) (w2 : FnL Tryz.prog 76 1 [.ls 0 b.length, .pv (.int .i64 hi), .pv (.bool false)] [(0, 0, zrB b)] (.ls 1 b.length) 1 [(1, 0, .row 4 1 b.length (zbV (b.set hi.toNat false)))]) (w3 : FnL Tryz.prog 110 3 [.ps 2 0 2 2] [(2, 0, .ls 0 fr.length), (2, 1, .ps 1 0 1 1), (1, 0, .pv (.int .i64 hi)), (0, 0, zrI fr)] (.ls 3 (fr.length + 1)) 1 [(3, 0, .row 3 1 (fr.length + 1) (ziV (fr ++ [hi])))]) :
    FnL Tryz.prog 81 3 [.ag [.ls 0 u.length, .ls 1 b.length, .ls 2 fr.length], .pv (.agg #[.int .i64 hi, .int .i64 hw])] [(0, 0, zrI u), (1, 0, zrB b), (2, 0, zrI fr)] (.tu [.ag [.ls 3 u.length, .ls 4 b.length, .ls 5 (fr.length + 1)], .one (.pv (.int .i64 0))]) 3 [(3, 0, .row 3 1 u.length (ziV (u))), (4, 0, .row 4 1 b.length (zbV (b.set hi.toNat false))), (5, 0, .row 3 1 (fr.length + 1) (ziV (fr ++ [hi])))] :=
  fnl_run 300 [(3, 6), (4, 7), (5, 10)] [.f [0,1,2] [.ag [.ls 0 u.length, .ls 1 b.length, .ls 2 fr.length]] [(0, 0, zrI u), (1, 0, zrB b), (2, 0, zrI fr)] (.pv (.int .i64 (0))) 0 [], .k, .f [0,1,2] [.ag [.ls 0 u.length, .ls 1 b.length, .ls 2 fr.length], .pv (.agg #[.int .i64 hi, .int .i64 hw])] [(0, 0, zrI u), (1, 0, zrB b), (2, 0, zrI fr)] (.pv (.bool true)) 0 [], .k, .md, .f [0] [.ls 0 u.length] [(0, 0, zrI u)] (.ls 1 u.length) 1 [(1, 0, zrI u)], .f [1] [.ls 0 b.length, .pv (.int .i64 hi), .pv (.bool false)] [(0, 0, zrB b)] (.ls 1 b.length) 1 [(1, 0, .row 4 1 b.length (zbV (b.set hi.toNat false)))], .f [2,8,9] [.ps 2 0 2 2] [(2, 0, .ls 0 fr.length), (2, 1, .ps 1 0 1 1), (1, 0, .pv (.int .i64 hi)), (0, 0, zrI fr)] (.ls 3 (fr.length + 1)) 1 [(3, 0, .row 3 1 (fr.length + 1) (ziV (fr ++ [hi])))]]
     (reflH (renN [(3, 6), (4, 7), (5, 10)]) [(3, 0, .row 3 1 u.length (ziV (u))), (4, 0, .row 4 1 b.length (zbV (b.set hi.toNat false))), (5, 0, .row 3 1 (fr.length + 1) (ziV (fr ++ [hi])))]) (And.intro hc (And.intro (Eq.refl (List.map (SV.ren (renU [0,1,2] 6)) [.ag [.ls 0 u.length, .ls 1 b.length, .ls 2 fr.length]])) (And.intro (reflH (renU [0,1,2] 6) [(0, 0, zrI u), (1, 0, zrB b), (2, 0, zrI fr)]) (And.intro hl (And.intro (Eq.refl (List.map (SV.ren (renU [0,1,2] 6)) [.ag [.ls 0 u.length, .ls 1 b.length, .ls 2 fr.length], .pv (.agg #[.int .i64 hi, .int .i64 hw])])) (And.intro (reflH (renU [0,1,2] 6) [(0, 0, zrI u), (1, 0, zrB b), (2, 0, zrI fr)]) (And.intro w1 (And.intro (Eq.refl (List.map (SV.ren (renU [0] 6)) [.ls 0 u.length])) (And.intro (reflH (renU [0] 6) [(0, 0, zrI u)]) (And.intro w2 (And.intro (Eq.refl (List.map (SV.ren (renU [1] 7)) [.ls 0 b.length, .pv (.int .i64 hi), .pv (.bool false)])) (And.intro (reflH (renU [1] 7) [(0, 0, zrB b)]) (And.intro w3 (And.intro (Eq.refl (List.map (SV.ren (renU [2,8,9] 10)) [.ps 2 0 2 2])) (And.intro (reflH (renU [2,8,9] 10) [(2, 0, .ls 0 fr.length), (2, 1, .ps 1 0 1 1), (1, 0, .pv (.int .i64 hi)), (0, 0, zrI fr)]) True.intro))))))))))))))) (by kernel_rfl)

end Go.Proofs.YtclpegneiomakaaGreat
