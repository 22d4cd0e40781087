/-
  Package cert's functions, path by path: find, Get, Add, Remove. Conditions: none.
-/
import Derived.Test.YtjjmnoiffpnphaaW31
namespace Go.Proofs.Ytjjmnoiffpnphaa
open Go.RowKit
theorem cat_x8 (l : List Pt) (p : Pt) : SV.ls 5 (0 + l.length + 1) = (SV.ls 3 (l ++ [p]).length).ren (renN [(3, 5)]) := by rw [Nat.zero_add, List.length_append]; rfl
theorem cat_row8 (l : List Pt) (p : Pt) : some (SV.row 28 3 (0 + l.length + 1) ([] ++ ptsV l ++ [.int .i64 p.id, .int .i64 p.a, .int .i64 p.b])) = some (rowC (l ++ [p])) := by rw [Nat.zero_add, List.nil_append]; exact (congrArg some (by rw [snoc_pts, rowC, List.length_append]; rfl))
theorem cut_x8 (b : Nat) (l : List Pt) (k : Nat) (h : k + 1 ≤ l.length) : SV.ls b (0 + k + (l.length - (k + 1))) = (SV.ls 2 (l.take k ++ l.drop (k + 1)).length).ren (renN [(2, b)]) := by rw [take_len l k h]; rfl
theorem cut_row8 (l : List Pt) (k : Nat) (h : k + 1 ≤ l.length) : some (SV.row 28 3 (0 + k + (l.length - (k + 1))) ([] ++ ((ptsV l).drop (0 * 3)).take (k * 3) ++ ((ptsV l).drop ((0 + (k + 1)) * 3)).take ((l.length - (k + 1)) * 3))) = some (rowC (l.take k ++ l.drop (k + 1))) := by
  have h1 := part_lo l k
  have h2 := part_hi l (k + 1)
  rw [Nat.zero_add] at h1
  rw [h1, h2, rowC, take_len l k h, ptsV_append, List.nil_append]

set_option maxRecDepth 100000 in
theorem fc1_lt {a pa pb n : Int} (n1 : (!(a == a)) = false) (n2 : (!(n == n)) = false) (h1 : decide (a < n) = true) :
    Pure Try.prog 68 #[pointV a pa pb, .int .i64 n] (.int .i64 (-1)) :=
  pure_run (args := [pointV a pa pb, .int .i64 n]) 300 [.k, .k, .t false, .k, .t false, .t true]
    (And.intro rfl (And.intro n1 (And.intro n2 (And.intro h1 True.intro)))) (by kernel_rfl)

set_option maxRecDepth 100000 in
theorem fc1_gt {a pa pb n : Int} (n1 : (!(a == a)) = false) (n2 : (!(n == n)) = false) (h1 : decide (a < n) = false) (h2 : decide (a > n) = true) :
    Pure Try.prog 68 #[pointV a pa pb, .int .i64 n] (.int .i64 (1)) :=
  pure_run (args := [pointV a pa pb, .int .i64 n]) 300 [.k, .k, .t false, .k, .t false, .t false, .t true]
    (And.intro rfl (And.intro n1 (And.intro n2 (And.intro h1 (And.intro h2 True.intro))))) (by kernel_rfl)

set_option maxRecDepth 100000 in
theorem fc1_eq {a pa pb n : Int} (n1 : (!(a == a)) = false) (n2 : (!(n == n)) = false) (h1 : decide (a < n) = false) (h2 : decide (a > n) = false) :
    Pure Try.prog 68 #[pointV a pa pb, .int .i64 n] (.int .i64 (0)) :=
  pure_run (args := [pointV a pa pb, .int .i64 n]) 300 [.k, .k, .t false, .k, .t false, .t false, .t false]
    (And.intro rfl (And.intro n1 (And.intro n2 (And.intro h1 (And.intro h2 True.intro))))) (by kernel_rfl)

set_option maxRecDepth 100000 in
theorem bs8_up {l : List Pt} {i j h : Nat} {p : Pt} {c n : Int} (hk : l[h]? = some p) (hin : 0 ≤ (h : Int) ∧ (h : Int) < (l.length : Int)) (hlt : decide ((i : Int) < (j : Int)) = true) (ha : Value.int .i64 (IntKind.i64.wrap ((i : Int) + (j : Int))) = .int .i64 ((i : Int) + (j : Int))) (hu : Value.int .u64 (IntKind.u64.wrap ((i : Int) + (j : Int))) = .int .u64 ((i : Int) + (j : Int))) (h1 : ¬ (1 : Int) < 0) (hs : Value.int .u64 (((i : Int) + (j : Int)).fdiv (2 ^ (min (1 : Int).toNat IntKind.u64.bits))) = .int .u64 (h : Int)) (hb : Value.int .i64 (IntKind.i64.wrap (h : Int)) = .int .i64 ((h : Int))) (hc : Pure Try.prog 68 #[pointV p.id p.a p.b, .int .i64 n] (.int .i64 (c))) (hz : decide (c < 0) = true) (hh : Value.int .i64 (IntKind.i64.wrap ((h : Int) + 1)) = .int .i64 (((h + 1 : Nat) : Int))) {e : Exit} {tm2 : List (Nat × SV)} {hp2 : List (Nat × Nat × SV)}
    (r : RunsL Try.prog 1 1 (loopOf Try.prog 67 0) 49 1 ([(0, .ls 0 l.length), (1, .pv (.int .i64 n)), (2, .pv (.func (.func 68) #[] #[])), (8, .pv (.int .i64 (l.length : Int))), (9, .pv (.int .i64 ((h + 1 : Nat) : Int))), (10, .pv (.int .i64 (j : Int)))]) ([(0, 0, rowC l)]) e tm2 hp2) : RunsL Try.prog 1 1 (loopOf Try.prog 67 0) 49 1 ([(0, .ls 0 l.length), (1, .pv (.int .i64 n)), (2, .pv (.func (.func 68) #[] #[])), (8, .pv (.int .i64 (l.length : Int))), (9, .pv (.int .i64 (i : Int))), (10, .pv (.int .i64 (j : Int)))]) ([(0, 0, rowC l)]) e tm2 hp2 :=
  RunsL.next [] 300 [.t true, .r (.int .i64 ((i : Int) + (j : Int))), .r (.int .u64 ((i : Int) + (j : Int))), .r (.int .u64 (h : Int)), .r (.int .i64 ((h : Int))), .r (ptV p), .r (.int .i64 (c)), .t true, .r (.int .i64 (((h + 1 : Nat) : Int)))]
    (round_of (And.intro hlt (And.intro ha (And.intro hu (And.intro h1 (And.intro hs (And.intro hb (And.intro hin (And.intro (ra_pt hk) (And.intro hc (And.intro hz (And.intro hh True.intro))))))))))) (by kernel_rfl)) r

set_option maxRecDepth 100000 in
theorem bs8_dn {l : List Pt} {i j h : Nat} {p : Pt} {c n : Int} (hk : l[h]? = some p) (hin : 0 ≤ (h : Int) ∧ (h : Int) < (l.length : Int)) (hlt : decide ((i : Int) < (j : Int)) = true) (ha : Value.int .i64 (IntKind.i64.wrap ((i : Int) + (j : Int))) = .int .i64 ((i : Int) + (j : Int))) (hu : Value.int .u64 (IntKind.u64.wrap ((i : Int) + (j : Int))) = .int .u64 ((i : Int) + (j : Int))) (h1 : ¬ (1 : Int) < 0) (hs : Value.int .u64 (((i : Int) + (j : Int)).fdiv (2 ^ (min (1 : Int).toNat IntKind.u64.bits))) = .int .u64 (h : Int)) (hb : Value.int .i64 (IntKind.i64.wrap (h : Int)) = .int .i64 ((h : Int))) (hc : Pure Try.prog 68 #[pointV p.id p.a p.b, .int .i64 n] (.int .i64 (c))) (hz : decide (c < 0) = false) {e : Exit} {tm2 : List (Nat × SV)} {hp2 : List (Nat × Nat × SV)}
    (r : RunsL Try.prog 1 1 (loopOf Try.prog 67 0) 49 1 ([(0, .ls 0 l.length), (1, .pv (.int .i64 n)), (2, .pv (.func (.func 68) #[] #[])), (8, .pv (.int .i64 (l.length : Int))), (9, .pv (.int .i64 (i : Int))), (10, .pv (.int .i64 (h : Int)))]) ([(0, 0, rowC l)]) e tm2 hp2) : RunsL Try.prog 1 1 (loopOf Try.prog 67 0) 49 1 ([(0, .ls 0 l.length), (1, .pv (.int .i64 n)), (2, .pv (.func (.func 68) #[] #[])), (8, .pv (.int .i64 (l.length : Int))), (9, .pv (.int .i64 (i : Int))), (10, .pv (.int .i64 (j : Int)))]) ([(0, 0, rowC l)]) e tm2 hp2 :=
  RunsL.next [] 300 [.t true, .r (.int .i64 ((i : Int) + (j : Int))), .r (.int .u64 ((i : Int) + (j : Int))), .r (.int .u64 (h : Int)), .r (.int .i64 ((h : Int))), .r (ptV p), .r (.int .i64 (c)), .t false]
    (round_of (And.intro hlt (And.intro ha (And.intro hu (And.intro h1 (And.intro hs (And.intro hb (And.intro hin (And.intro (ra_pt hk) (And.intro hc (And.intro hz True.intro)))))))))) (by kernel_rfl)) r

set_option maxRecDepth 100000 in
theorem bs8_end {l : List Pt} {i j : Nat} {n : Int} (hge : decide ((i : Int) < (j : Int)) = false) : RunsL Try.prog 1 1 (loopOf Try.prog 67 0) 49 1 ([(0, .ls 0 l.length), (1, .pv (.int .i64 n)), (2, .pv (.func (.func 68) #[] #[])), (8, .pv (.int .i64 (l.length : Int))), (9, .pv (.int .i64 (i : Int))), (10, .pv (.int .i64 (j : Int)))]) ([(0, 0, rowC l)]) (.exit 0) ([(0, .ls 0 l.length), (1, .pv (.int .i64 n)), (2, .pv (.func (.func 68) #[] #[])), (8, .pv (.int .i64 (l.length : Int))), (9, .pv (.int .i64 (i : Int))), (10, .pv (.int .i64 (j : Int)))]) ([(0, 0, rowC l)]) :=
  RunsL.stop [] 300 [.t false] (fun h => by cases h)
    (round_of (And.intro hge True.intro) (by kernel_rfl))

set_option maxRecDepth 100000 in
theorem bsf8_out {l : List Pt} {k : Nat} {n : Int} (r0 : RunsL Try.prog 1 1 (loopOf Try.prog 67 0) 49 1 ([(0, .ls 0 l.length), (1, .pv (.int .i64 n)), (2, .pv (.func (.func 68) #[] #[])), (8, .pv (.int .i64 (l.length : Int))), (9, .pv (.int .i64 ((0 : Nat) : Int))), (10, .pv (.int .i64 (l.length : Int)))]) ([(0, 0, rowC l)]) (.exit 0) ([(0, .ls 0 l.length), (1, .pv (.int .i64 n)), (2, .pv (.func (.func 68) #[] #[])), (8, .pv (.int .i64 (l.length : Int))), (9, .pv (.int .i64 (k : Int))), (10, .pv (.int .i64 (k : Int)))]) ([(0, 0, rowC l)])) (hge : decide ((k : Int) < (l.length : Int)) = false) :
    FnL Try.prog 67 1 [.ls 0 l.length, .pv (.int .i64 (n)), .pv (.func (.func 68) #[] #[])] [(0, 0, rowC l)] (.pv (.tuple #[.int .i64 (k : Int), .bool false])) 0 [] :=
  fnl_run 300 [] [.l (.exit 0) ([(0, .ls 0 l.length), (1, .pv (.int .i64 n)), (2, .pv (.func (.func 68) #[] #[])), (8, .pv (.int .i64 (l.length : Int))), (9, .pv (.int .i64 ((0 : Nat) : Int))), (10, .pv (.int .i64 (l.length : Int)))]) ([(0, 0, rowC l)]) ([(0, .ls 0 l.length), (1, .pv (.int .i64 n)), (2, .pv (.func (.func 68) #[] #[])), (8, .pv (.int .i64 (l.length : Int))), (9, .pv (.int .i64 (k : Int))), (10, .pv (.int .i64 (k : Int)))]) ([(0, 0, rowC l)]), .t false]
     True.intro (And.intro (reflT (renN []) ([(0, .ls 0 l.length), (1, .pv (.int .i64 n)), (2, .pv (.func (.func 68) #[] #[])), (8, .pv (.int .i64 (l.length : Int))), (9, .pv (.int .i64 ((0 : Nat) : Int))), (10, .pv (.int .i64 (l.length : Int)))])) (And.intro (reflH (renN []) ([(0, 0, rowC l)])) (And.intro r0 (And.intro hge True.intro)))) (by kernel_rfl)

set_option maxRecDepth 100000 in
theorem bsf8_hit {l : List Pt} {k : Nat} {p : Pt} {c : Int} {n : Int} (r0 : RunsL Try.prog 1 1 (loopOf Try.prog 67 0) 49 1 ([(0, .ls 0 l.length), (1, .pv (.int .i64 n)), (2, .pv (.func (.func 68) #[] #[])), (8, .pv (.int .i64 (l.length : Int))), (9, .pv (.int .i64 ((0 : Nat) : Int))), (10, .pv (.int .i64 (l.length : Int)))]) ([(0, 0, rowC l)]) (.exit 0) ([(0, .ls 0 l.length), (1, .pv (.int .i64 n)), (2, .pv (.func (.func 68) #[] #[])), (8, .pv (.int .i64 (l.length : Int))), (9, .pv (.int .i64 (k : Int))), (10, .pv (.int .i64 (k : Int)))]) ([(0, 0, rowC l)])) (hk : l[k]? = some p) (hin : 0 ≤ (k : Int) ∧ (k : Int) < (l.length : Int)) (hlt : decide ((k : Int) < (l.length : Int)) = true) (hc : Pure Try.prog 68 #[pointV p.id p.a p.b, .int .i64 n] (.int .i64 (c))) (hz : (c == 0) = true) :
    FnL Try.prog 67 1 [.ls 0 l.length, .pv (.int .i64 (n)), .pv (.func (.func 68) #[] #[])] [(0, 0, rowC l)] (.pv (.tuple #[.int .i64 (k : Int), .bool true])) 0 [] :=
  fnl_run 300 [] [.l (.exit 0) ([(0, .ls 0 l.length), (1, .pv (.int .i64 n)), (2, .pv (.func (.func 68) #[] #[])), (8, .pv (.int .i64 (l.length : Int))), (9, .pv (.int .i64 ((0 : Nat) : Int))), (10, .pv (.int .i64 (l.length : Int)))]) ([(0, 0, rowC l)]) ([(0, .ls 0 l.length), (1, .pv (.int .i64 n)), (2, .pv (.func (.func 68) #[] #[])), (8, .pv (.int .i64 (l.length : Int))), (9, .pv (.int .i64 (k : Int))), (10, .pv (.int .i64 (k : Int)))]) ([(0, 0, rowC l)]), .t true, .r (ptV p), .r (.int .i64 (c)), .t true]
     True.intro (And.intro (reflT (renN []) ([(0, .ls 0 l.length), (1, .pv (.int .i64 n)), (2, .pv (.func (.func 68) #[] #[])), (8, .pv (.int .i64 (l.length : Int))), (9, .pv (.int .i64 ((0 : Nat) : Int))), (10, .pv (.int .i64 (l.length : Int)))])) (And.intro (reflH (renN []) ([(0, 0, rowC l)])) (And.intro r0 (And.intro hlt (And.intro hin (And.intro (ra_pt hk) (And.intro hc (And.intro hz True.intro)))))))) (by kernel_rfl)

set_option maxRecDepth 100000 in
theorem bsf8_no {l : List Pt} {k : Nat} {p : Pt} {c : Int} {n : Int} (r0 : RunsL Try.prog 1 1 (loopOf Try.prog 67 0) 49 1 ([(0, .ls 0 l.length), (1, .pv (.int .i64 n)), (2, .pv (.func (.func 68) #[] #[])), (8, .pv (.int .i64 (l.length : Int))), (9, .pv (.int .i64 ((0 : Nat) : Int))), (10, .pv (.int .i64 (l.length : Int)))]) ([(0, 0, rowC l)]) (.exit 0) ([(0, .ls 0 l.length), (1, .pv (.int .i64 n)), (2, .pv (.func (.func 68) #[] #[])), (8, .pv (.int .i64 (l.length : Int))), (9, .pv (.int .i64 (k : Int))), (10, .pv (.int .i64 (k : Int)))]) ([(0, 0, rowC l)])) (hk : l[k]? = some p) (hin : 0 ≤ (k : Int) ∧ (k : Int) < (l.length : Int)) (hlt : decide ((k : Int) < (l.length : Int)) = true) (hc : Pure Try.prog 68 #[pointV p.id p.a p.b, .int .i64 n] (.int .i64 (c))) (hz : (c == 0) = false) :
    FnL Try.prog 67 1 [.ls 0 l.length, .pv (.int .i64 (n)), .pv (.func (.func 68) #[] #[])] [(0, 0, rowC l)] (.pv (.tuple #[.int .i64 (k : Int), .bool false])) 0 [] :=
  fnl_run 300 [] [.l (.exit 0) ([(0, .ls 0 l.length), (1, .pv (.int .i64 n)), (2, .pv (.func (.func 68) #[] #[])), (8, .pv (.int .i64 (l.length : Int))), (9, .pv (.int .i64 ((0 : Nat) : Int))), (10, .pv (.int .i64 (l.length : Int)))]) ([(0, 0, rowC l)]) ([(0, .ls 0 l.length), (1, .pv (.int .i64 n)), (2, .pv (.func (.func 68) #[] #[])), (8, .pv (.int .i64 (l.length : Int))), (9, .pv (.int .i64 (k : Int))), (10, .pv (.int .i64 (k : Int)))]) ([(0, 0, rowC l)]), .t true, .r (ptV p), .r (.int .i64 (c)), .t false]
     True.intro (And.intro (reflT (renN []) ([(0, .ls 0 l.length), (1, .pv (.int .i64 n)), (2, .pv (.func (.func 68) #[] #[])), (8, .pv (.int .i64 (l.length : Int))), (9, .pv (.int .i64 ((0 : Nat) : Int))), (10, .pv (.int .i64 (l.length : Int)))])) (And.intro (reflH (renN []) ([(0, 0, rowC l)])) (And.intro r0 (And.intro hlt (And.intro hin (And.intro (ra_pt hk) (And.intro hc (And.intro hz True.intro)))))))) (by kernel_rfl)

set_option maxRecDepth 100000 in
theorem find8_path {l : List Pt} {k : Nat} {b : Bool} {x n : Int} (hb : FnL Try.prog 67 1 [.ls 0 l.length, .pv (.int .i64 (n)), .pv (.func (.func 68) #[] #[])] [(0, 0, rowC l)] (.pv (.tuple #[.int .i64 (k : Int), .bool b])) 0 []) :
    FnL Try.prog 43 1 [crtS 0 x l, .pv (.int .i64 (n))] [(0, 0, rowC l)] (.pv (.tuple #[.int .i64 (k : Int), .bool b])) 0 [] :=
  fnl_run 300 [] [.f [0] [.ls 0 l.length, .pv (.int .i64 (n)), .pv (.func (.func 68) #[] #[])] [(0, 0, rowC l)] (.pv (.tuple #[.int .i64 (k : Int), .bool b])) 0 []]
     True.intro (And.intro hb (And.intro (Eq.refl (List.map (SV.ren (renU [0] 2)) [.ls 0 l.length, .pv (.int .i64 (n)), .pv (.func (.func 68) #[] #[])])) (And.intro (reflH (renU [0] 2) [(0, 0, rowC l)]) True.intro))) (by kernel_rfl)

set_option maxRecDepth 100000 in
theorem pg8_bad {l : List Pt} {x n : Int} (hc : FnL Try.prog 16 1 [crtS 0 x l] [(0, 0, rowC l)] (.pv (.int .i64 (8))) 0 []) :
    FnL Try.prog 12 1 [crtS 0 x l, .pv (.int .i64 (n))] [(0, 0, rowC l)] (.pv (.tuple #[certV 0 0, .int .i64 8])) 0 [] :=
  fnl_run 300 [] [.f [0] [crtS 0 x l] [(0, 0, rowC l)] (.pv (.int .i64 (8))) 0 [], .k]
     True.intro (And.intro hc (And.intro (Eq.refl (List.map (SV.ren (renU [0] 3)) [crtS 0 x l])) (And.intro (reflH (renU [0] 3) [(0, 0, rowC l)]) True.intro))) (by kernel_rfl)

set_option maxRecDepth 100000 in
theorem pg8_no {l : List Pt} {k : Nat} {x n : Int} (hc : FnL Try.prog 16 1 [crtS 0 x l] [(0, 0, rowC l)] (.pv (.int .i64 (0))) 0 []) (hf : FnL Try.prog 43 1 [crtS 0 x l, .pv (.int .i64 (n))] [(0, 0, rowC l)] (.pv (.tuple #[.int .i64 (k : Int), .bool false])) 0 []) :
    FnL Try.prog 12 1 [crtS 0 x l, .pv (.int .i64 (n))] [(0, 0, rowC l)] (.pv (.tuple #[certV 0 0, .int .i64 6])) 0 [] :=
  fnl_run 300 [] [.f [0] [crtS 0 x l] [(0, 0, rowC l)] (.pv (.int .i64 (0))) 0 [], .k, .f [0] [crtS 0 x l, .pv (.int .i64 (n))] [(0, 0, rowC l)] (.pv (.tuple #[.int .i64 (k : Int), .bool false])) 0 [], .k]
     True.intro (And.intro hc (And.intro (Eq.refl (List.map (SV.ren (renU [0] 3)) [crtS 0 x l])) (And.intro (reflH (renU [0] 3) [(0, 0, rowC l)]) (And.intro hf (And.intro (Eq.refl (List.map (SV.ren (renU [0] 3)) [crtS 0 x l, .pv (.int .i64 (n))])) (And.intro (reflH (renU [0] 3) [(0, 0, rowC l)]) True.intro)))))) (by kernel_rfl)

set_option maxRecDepth 100000 in
theorem pg8_yes {l : List Pt} {k : Nat} {p : Pt} {x n : Int} (hk : l[k]? = some p) (hin : 0 ≤ (k : Int) ∧ (k : Int) < (l.length : Int)) (hc : FnL Try.prog 16 1 [crtS 0 x l] [(0, 0, rowC l)] (.pv (.int .i64 (0))) 0 []) (hf : FnL Try.prog 43 1 [crtS 0 x l, .pv (.int .i64 (n))] [(0, 0, rowC l)] (.pv (.tuple #[.int .i64 (k : Int), .bool true])) 0 []) :
    FnL Try.prog 12 1 [crtS 0 x l, .pv (.int .i64 (n))] [(0, 0, rowC l)] (.pv (.tuple #[certV p.a p.b, .int .i64 0])) 0 [] :=
  fnl_run 300 [] [.f [0] [crtS 0 x l] [(0, 0, rowC l)] (.pv (.int .i64 (0))) 0 [], .k, .f [0] [crtS 0 x l, .pv (.int .i64 (n))] [(0, 0, rowC l)] (.pv (.tuple #[.int .i64 (k : Int), .bool true])) 0 [], .k, .r (certV p.a p.b)]
     True.intro (And.intro hc (And.intro (Eq.refl (List.map (SV.ren (renU [0] 3)) [crtS 0 x l])) (And.intro (reflH (renU [0] 3) [(0, 0, rowC l)]) (And.intro hf (And.intro (Eq.refl (List.map (SV.ren (renU [0] 3)) [crtS 0 x l, .pv (.int .i64 (n))])) (And.intro (reflH (renU [0] 3) [(0, 0, rowC l)]) (And.intro hin (And.intro (ra_ce hk) True.intro)))))))) (by kernel_rfl)

set_option maxRecDepth 100000 in
theorem ix8_next {l : List Pt} {k : Nat} {p : Pt} {a b : Int} (hk : l[k]? = some p) (hin : 0 ≤ (k : Int) ∧ (k : Int) < (l.length : Int)) (hlt : decide ((k : Int) < (l.length : Int)) = true) (he : (p.a == a && (p.b == b && true)) = false) (hs : Value.int .i64 (IntKind.i64.wrap ((k : Int) + 1)) = .int .i64 (((k + 1 : Nat) : Int))) {e : Exit} {tm2 : List (Nat × SV)} {hp2 : List (Nat × Nat × SV)}
    (r : RunsL Try.prog 2 2 (loopOf Try.prog 85 0) 19 2 ([(0, .ls 0 l.length), (1, .pc 65 [.pp 1 0]), (7, .pv (.int .i64 (l.length : Int))), (8, .pv (.int .i64 ((k + 1 : Nat) : Int)))]) ([(0, 0, rowC l), (1, 0, .pv (.int .i64 a)), (1, 1, .pv (.int .i64 b))]) e tm2 hp2) : RunsL Try.prog 2 2 (loopOf Try.prog 85 0) 19 2 ([(0, .ls 0 l.length), (1, .pc 65 [.pp 1 0]), (7, .pv (.int .i64 (l.length : Int))), (8, .pv (.int .i64 (k : Int)))]) ([(0, 0, rowC l), (1, 0, .pv (.int .i64 a)), (1, 1, .pv (.int .i64 b))]) e tm2 hp2 :=
  RunsL.next [] 300 [.t true, .r (ptV p), .k, .t false, .r (.int .i64 (((k + 1 : Nat) : Int)))]
    (round_of (And.intro hlt (And.intro hin (And.intro (ra_pt hk) (And.intro he (And.intro hs True.intro))))) (by kernel_rfl)) r

set_option maxRecDepth 100000 in
theorem ix8_hit {l : List Pt} {k : Nat} {p : Pt} {a b : Int} (hk : l[k]? = some p) (hin : 0 ≤ (k : Int) ∧ (k : Int) < (l.length : Int)) (hlt : decide ((k : Int) < (l.length : Int)) = true) (he : (p.a == a && (p.b == b && true)) = true) : RunsL Try.prog 2 2 (loopOf Try.prog 85 0) 19 2 ([(0, .ls 0 l.length), (1, .pc 65 [.pp 1 0]), (7, .pv (.int .i64 (l.length : Int))), (8, .pv (.int .i64 (k : Int)))]) ([(0, 0, rowC l), (1, 0, .pv (.int .i64 a)), (1, 1, .pv (.int .i64 b))]) (.ret) ([(4, .pv (.int .i64 (k : Int)))]) ([]) :=
  RunsL.stop [] 300 [.t true, .r (ptV p), .k, .t true] (fun h => by cases h)
    (round_of (And.intro hlt (And.intro hin (And.intro (ra_pt hk) (And.intro he True.intro)))) (by kernel_rfl))

set_option maxRecDepth 100000 in
theorem ix8_end {l : List Pt} {k : Nat} {a b : Int} (hge : decide ((k : Int) < (l.length : Int)) = false) : RunsL Try.prog 2 2 (loopOf Try.prog 85 0) 19 2 ([(0, .ls 0 l.length), (1, .pc 65 [.pp 1 0]), (7, .pv (.int .i64 (l.length : Int))), (8, .pv (.int .i64 (k : Int)))]) ([(0, 0, rowC l), (1, 0, .pv (.int .i64 a)), (1, 1, .pv (.int .i64 b))]) (.exit 0) ([]) ([]) :=
  RunsL.stop [] 300 [.t false] (fun h => by cases h)
    (round_of (And.intro hge True.intro) (by kernel_rfl))

set_option maxRecDepth 100000 in
theorem ix8_no {l : List Pt} {a b : Int} (r0 : RunsL Try.prog 2 2 (loopOf Try.prog 85 0) 19 2 ([(0, .ls 0 l.length), (1, .pc 65 [.pp 1 0]), (7, .pv (.int .i64 (l.length : Int))), (8, .pv (.int .i64 ((0 : Nat) : Int)))]) ([(0, 0, rowC l), (1, 0, .pv (.int .i64 a)), (1, 1, .pv (.int .i64 b))]) (.exit 0) ([]) ([])) :
    FnL Try.prog 85 2 [.ls 0 l.length, .pc 65 [.pp 1 0]] [(0, 0, rowC l), (1, 0, .pv (.int .i64 a)), (1, 1, .pv (.int .i64 b))] (.pv (.int .i64 (-1))) 0 [] :=
  fnl_run 300 [] [.l (.exit 0) ([(0, .ls 0 l.length), (1, .pc 65 [.pp 1 0]), (7, .pv (.int .i64 (l.length : Int))), (8, .pv (.int .i64 ((0 : Nat) : Int)))]) ([(0, 0, rowC l), (1, 0, .pv (.int .i64 a)), (1, 1, .pv (.int .i64 b))]) ([]) ([])]
     True.intro (And.intro (reflT (renN []) ([(0, .ls 0 l.length), (1, .pc 65 [.pp 1 0]), (7, .pv (.int .i64 (l.length : Int))), (8, .pv (.int .i64 ((0 : Nat) : Int)))])) (And.intro (reflH (renN []) ([(0, 0, rowC l), (1, 0, .pv (.int .i64 a)), (1, 1, .pv (.int .i64 b))])) (And.intro r0 True.intro))) (by kernel_rfl)

set_option maxRecDepth 100000 in
theorem ix8_yes {l : List Pt} {k : Nat} {a b : Int} (r0 : RunsL Try.prog 2 2 (loopOf Try.prog 85 0) 19 2 ([(0, .ls 0 l.length), (1, .pc 65 [.pp 1 0]), (7, .pv (.int .i64 (l.length : Int))), (8, .pv (.int .i64 ((0 : Nat) : Int)))]) ([(0, 0, rowC l), (1, 0, .pv (.int .i64 a)), (1, 1, .pv (.int .i64 b))]) (.ret) ([(4, .pv (.int .i64 (k : Int)))]) ([])) :
    FnL Try.prog 85 2 [.ls 0 l.length, .pc 65 [.pp 1 0]] [(0, 0, rowC l), (1, 0, .pv (.int .i64 a)), (1, 1, .pv (.int .i64 b))] (.pv (.int .i64 ((k : Int)))) 0 [] :=
  fnl_run 300 [] [.l (.ret) ([(0, .ls 0 l.length), (1, .pc 65 [.pp 1 0]), (7, .pv (.int .i64 (l.length : Int))), (8, .pv (.int .i64 ((0 : Nat) : Int)))]) ([(0, 0, rowC l), (1, 0, .pv (.int .i64 a)), (1, 1, .pv (.int .i64 b))]) ([(4, .pv (.int .i64 (k : Int)))]) ([])]
     True.intro (And.intro (reflT (renN []) ([(0, .ls 0 l.length), (1, .pc 65 [.pp 1 0]), (7, .pv (.int .i64 (l.length : Int))), (8, .pv (.int .i64 ((0 : Nat) : Int)))])) (And.intro (reflH (renN []) ([(0, 0, rowC l), (1, 0, .pv (.int .i64 a)), (1, 1, .pv (.int .i64 b))])) (And.intro r0 True.intro))) (by kernel_rfl)

set_option maxRecDepth 100000 in
theorem ct8_no {l : List Pt} {a b : Int} (hi : FnL Try.prog 85 2 [.ls 0 l.length, .pc 65 [.pp 1 0]] [(0, 0, rowC l), (1, 0, .pv (.int .i64 a)), (1, 1, .pv (.int .i64 b))] (.pv (.int .i64 (-1))) 0 []) :
    FnL Try.prog 64 2 [.ls 0 l.length, .pc 65 [.pp 1 0]] [(0, 0, rowC l), (1, 0, .pv (.int .i64 a)), (1, 1, .pv (.int .i64 b))] (.pv (.bool false)) 0 [] :=
  fnl_run 300 [] [.f [0,1] [.ls 0 l.length, .pc 65 [.pp 1 0]] [(0, 0, rowC l), (1, 0, .pv (.int .i64 a)), (1, 1, .pv (.int .i64 b))] (.pv (.int .i64 (-1))) 0 [], .k]
     True.intro (And.intro hi (And.intro (Eq.refl (List.map (SV.ren (renU [0,1] 2)) [.ls 0 l.length, .pc 65 [.pp 1 0]])) (And.intro (reflH (renU [0,1] 2) [(0, 0, rowC l), (1, 0, .pv (.int .i64 a)), (1, 1, .pv (.int .i64 b))]) True.intro))) (by kernel_rfl)

set_option maxRecDepth 100000 in
theorem ct8_yes {l : List Pt} {k : Nat} {a b : Int} (hi : FnL Try.prog 85 2 [.ls 0 l.length, .pc 65 [.pp 1 0]] [(0, 0, rowC l), (1, 0, .pv (.int .i64 a)), (1, 1, .pv (.int .i64 b))] (.pv (.int .i64 ((k : Int)))) 0 []) (h0 : decide ((k : Int) ≥ 0) = true) :
    FnL Try.prog 64 2 [.ls 0 l.length, .pc 65 [.pp 1 0]] [(0, 0, rowC l), (1, 0, .pv (.int .i64 a)), (1, 1, .pv (.int .i64 b))] (.pv (.bool true)) 0 [] :=
  fnl_run 300 [] [.f [0,1] [.ls 0 l.length, .pc 65 [.pp 1 0]] [(0, 0, rowC l), (1, 0, .pv (.int .i64 a)), (1, 1, .pv (.int .i64 b))] (.pv (.int .i64 ((k : Int)))) 0 [], .t true]
     True.intro (And.intro hi (And.intro (Eq.refl (List.map (SV.ren (renU [0,1] 2)) [.ls 0 l.length, .pc 65 [.pp 1 0]])) (And.intro (reflH (renU [0,1] 2) [(0, 0, rowC l), (1, 0, .pv (.int .i64 a)), (1, 1, .pv (.int .i64 b))]) (And.intro h0 True.intro)))) (by kernel_rfl)

set_option maxRecDepth 100000 in
theorem cn8_bad {l : List Pt} {x a b : Int} (hv : Pure Try.prog 63 #[certV a b] (.bool false)) :
    FnL Try.prog 40 1 [crtS 0 x l, .pv (certV a b)] [(0, 0, rowC l)] (.pv (.int .i64 (8))) 0 [] :=
  fnl_run 300 [] [.r (.bool false), .k]
     True.intro (And.intro hv True.intro) (by kernel_rfl)

set_option maxRecDepth 100000 in
theorem cn8_two {l : List Pt} {x a b : Int} (hv : Pure Try.prog 63 #[certV a b] (.bool true)) (ht : FnL Try.prog 64 2 [.ls 0 l.length, .pc 65 [.pp 1 0]] [(0, 0, rowC l), (1, 0, .pv (.int .i64 a)), (1, 1, .pv (.int .i64 b))] (.pv (.bool true)) 0 []) :
    FnL Try.prog 40 1 [crtS 0 x l, .pv (certV a b)] [(0, 0, rowC l)] (.pv (.int .i64 (14))) 0 [] :=
  fnl_run 300 [] [.r (.bool true), .k, .f [0,2] [.ls 0 l.length, .pc 65 [.pp 1 0]] [(0, 0, rowC l), (1, 0, .pv (.int .i64 a)), (1, 1, .pv (.int .i64 b))] (.pv (.bool true)) 0 []]
     True.intro (And.intro hv (And.intro ht (And.intro (Eq.refl (List.map (SV.ren (renU [0,2] 3)) [.ls 0 l.length, .pc 65 [.pp 1 0]])) (And.intro (reflH (renU [0,2] 3) [(0, 0, rowC l), (1, 0, .pv (.int .i64 a)), (1, 1, .pv (.int .i64 b))]) True.intro)))) (by kernel_rfl)

set_option maxRecDepth 100000 in
theorem cn8_ok {l : List Pt} {x a b : Int} (hv : Pure Try.prog 63 #[certV a b] (.bool true)) (ht : FnL Try.prog 64 2 [.ls 0 l.length, .pc 65 [.pp 1 0]] [(0, 0, rowC l), (1, 0, .pv (.int .i64 a)), (1, 1, .pv (.int .i64 b))] (.pv (.bool false)) 0 []) :
    FnL Try.prog 40 1 [crtS 0 x l, .pv (certV a b)] [(0, 0, rowC l)] (.pv (.int .i64 (0))) 0 [] :=
  fnl_run 300 [] [.r (.bool true), .k, .f [0,2] [.ls 0 l.length, .pc 65 [.pp 1 0]] [(0, 0, rowC l), (1, 0, .pv (.int .i64 a)), (1, 1, .pv (.int .i64 b))] (.pv (.bool false)) 0 []]
     True.intro (And.intro hv (And.intro ht (And.intro (Eq.refl (List.map (SV.ren (renU [0,2] 3)) [.ls 0 l.length, .pc 65 [.pp 1 0]])) (And.intro (reflH (renU [0,2] 3) [(0, 0, rowC l), (1, 0, .pv (.int .i64 a)), (1, 1, .pv (.int .i64 b))]) True.intro)))) (by kernel_rfl)

set_option maxRecDepth 100000 in
theorem cr8_full {l : List Pt} {x : Int} (hf : ((l.length : Int) == 200) = true) :
    FnL Try.prog 41 1 [crtS 0 x l] [(0, 0, rowC l)] (.pv (.int .i64 (18))) 0 [] :=
  fnl_run 300 [] [.t true]
     True.intro (And.intro hf True.intro) (by kernel_rfl)

set_option maxRecDepth 100000 in
theorem cr8_worn {l : List Pt} {x : Int} (hf : ((l.length : Int) == 200) = false) (hu : (x == 1000000) = true) :
    FnL Try.prog 41 1 [crtS 0 x l] [(0, 0, rowC l)] (.pv (.int .i64 (18))) 0 [] :=
  fnl_run 300 [] [.t false, .t true]
     True.intro (And.intro hf (And.intro hu True.intro)) (by kernel_rfl)

set_option maxRecDepth 100000 in
theorem cr8_ok {l : List Pt} {x : Int} (hf : ((l.length : Int) == 200) = false) (hu : (x == 1000000) = false) :
    FnL Try.prog 41 1 [crtS 0 x l] [(0, 0, rowC l)] (.pv (.int .i64 (0))) 0 [] :=
  fnl_run 300 [] [.t false, .t false]
     True.intro (And.intro hf (And.intro hu True.intro)) (by kernel_rfl)

set_option maxRecDepth 100000 in
theorem gr8_0 {s : Int} (h0 : decide (s < 0) = false) (hs : Value.int .i64 (IntKind.i64.wrap (s - 0)) = .int .i64 (s)) (hg : decide (s > 0) = false) :
    FnL Try.prog 66 0 [.pv (.slice none 0 0), .pv (.int .i64 (s))] [] (.pv (.slice none 0 0)) 0 [] :=
  fnl_run 300 [] [.t false, .k, .r (.int .i64 (s)), .t false]
     True.intro (And.intro h0 (And.intro hs (And.intro hg True.intro))) (by kernel_rfl)

set_option maxRecDepth 100000 in
theorem gr8_s {s : Int} (h0 : decide (s < 0) = false) (hs : Value.int .i64 (IntKind.i64.wrap (s - 0)) = .int .i64 (s)) (hg : decide (s > 0) = true) (a0 : 0 ≤ s) (a1 : s ≤ 1000000) :
    FnL Try.prog 66 0 [.pv (.slice none 0 0), .pv (.int .i64 (s))] [] (.ls 0 0) 1 [(0, 0, rowC ([] : List Pt))] :=
  fnl_run 300 [(0, 1)] [.t false, .k, .r (.int .i64 (s)), .t true, .w []]
     (reflH (renN [(0, 1)]) [(0, 0, rowC ([] : List Pt))]) (And.intro h0 (And.intro hs (And.intro hg (And.intro a0 (And.intro a1 (And.intro (Int.le_refl (0 : Int)) (And.intro (Nat.zero_le s.toNat) True.intro))))))) (by kernel_rfl)

set_option maxRecDepth 100000 in
theorem cat8 {l : List Pt} {x a b : Int} {s1 s2 : Int} (q1 : Value.int .i64 (IntKind.i64.wrap ((0 : Int) + (l.length : Int))) = .int .i64 (s1)) (n1 : decide (s1 < 0) = false) (q2 : Value.int .i64 (IntKind.i64.wrap (s1 + ((1 : Nat) : Int))) = .int .i64 (s2)) (n2 : decide (s2 < 0) = false) (hgr : FnL Try.prog 66 0 [.pv (.slice none 0 0), .pv (.int .i64 (s2))] [] (.ls 0 0) 1 [(0, 0, rowC ([] : List Pt))]) (a1 : 0 + l.length ≤ 1000000) (a2 : 0 + l.length + 1 ≤ 1000000) :
    FnL Try.prog 42 3 [.ps 2 0 2 2] [(2, 0, .ls 0 l.length), (2, 1, .ps 1 0 1 1), (1, 0, .pv (.int .i64 x)), (1, 1, .pv (.int .i64 a)), (1, 2, .pv (.int .i64 b)), (0, 0, rowC l)] (.ls 3 (l ++ [(Pt.mk x a b)]).length) 1 [(3, 0, rowC (l ++ [(Pt.mk x a b)]))] :=
  fnl_runX 300 [(3, 5)] [.k, .r (.int .i64 (s1)), .t false, .k, .k, .r (.int .i64 (s2)), .t false, .k, .k, .f [] [.pv (.slice none 0 0), .pv (.int .i64 (s2))] [] (.ls 0 0) 1 [(0, 0, rowC ([] : List Pt))], .k, .k, .k, .k, .k]
    (cat_x8 l (Pt.mk x a b)) (And.intro (cat_row8 l (Pt.mk x a b)) True.intro) (And.intro q1 (And.intro n1 (And.intro q2 (And.intro n2 (And.intro hgr (And.intro (Eq.refl (List.map (SV.ren (renU [] 3)) [.pv (.slice none 0 0), .pv (.int .i64 (s2))])) (And.intro (reflH (renU [] 3) []) (And.intro a1 (And.intro a2 True.intro))))))))) (by kernel_rfl)

set_option maxRecDepth 100000 in
theorem cut8_s {l : List Pt} {k : Nat} {s1 s2 : Int} (q1 : Value.int .i64 (IntKind.i64.wrap ((0 : Int) + ((k : Nat) : Int))) = .int .i64 (s1)) (n1 : decide (s1 < 0) = false) (q2 : Value.int .i64 (IntKind.i64.wrap (s1 + ((l.length - (k + 1) : Nat) : Int))) = .int .i64 (s2)) (n2 : decide (s2 < 0) = false) (hgr : FnL Try.prog 66 0 [.pv (.slice none 0 0), .pv (.int .i64 (s2))] [] (.ls 0 0) 1 [(0, 0, rowC ([] : List Pt))]) (a1 : 0 + k ≤ 1000000) (a2 : 0 + k + (l.length - (k + 1)) ≤ 1000000) (hkl1 : k + 1 ≤ l.length) :
    FnL Try.prog 42 2 [.ps 1 0 2 2] [(1, 0, .lq 0 3 0 k), (1, 1, .lq 0 3 (0 + (k + 1)) (l.length - (k + 1))), (0, 0, rowC l)] (.ls 2 (l.take k ++ l.drop (k + 1)).length) 1 [(2, 0, rowC (l.take k ++ l.drop (k + 1)))] :=
  fnl_runX 300 [(2, 4)] [.k, .r (.int .i64 (s1)), .t false, .k, .k, .r (.int .i64 (s2)), .t false, .k, .k, .f [] [.pv (.slice none 0 0), .pv (.int .i64 (s2))] [] (.ls 0 0) 1 [(0, 0, rowC ([] : List Pt))], .k, .k, .k, .k, .k]
    (cut_x8 4 l k hkl1) (And.intro (cut_row8 l k hkl1) True.intro) (And.intro q1 (And.intro n1 (And.intro q2 (And.intro n2 (And.intro hgr (And.intro (Eq.refl (List.map (SV.ren (renU [] 2)) [.pv (.slice none 0 0), .pv (.int .i64 (s2))])) (And.intro (reflH (renU [] 2) []) (And.intro a1 (And.intro a2 True.intro))))))))) (by kernel_rfl)

set_option maxRecDepth 100000 in
theorem cut8_0 {l : List Pt} {k : Nat} {s1 s2 : Int} (q1 : Value.int .i64 (IntKind.i64.wrap ((0 : Int) + ((k : Nat) : Int))) = .int .i64 (s1)) (n1 : decide (s1 < 0) = false) (q2 : Value.int .i64 (IntKind.i64.wrap (s1 + ((l.length - (k + 1) : Nat) : Int))) = .int .i64 (s2)) (n2 : decide (s2 < 0) = false) (hgr : FnL Try.prog 66 0 [.pv (.slice none 0 0), .pv (.int .i64 (s2))] [] (.pv (.slice none 0 0)) 0 []) (a1 : 0 + k ≤ 1000000) (a2 : 0 + k + (l.length - (k + 1)) ≤ 1000000) (hkl1 : k + 1 ≤ l.length) :
    FnL Try.prog 42 2 [.ps 1 0 2 2] [(1, 0, .lq 0 3 0 k), (1, 1, .lq 0 3 (0 + (k + 1)) (l.length - (k + 1))), (0, 0, rowC l)] (.ls 2 (l.take k ++ l.drop (k + 1)).length) 1 [(2, 0, rowC (l.take k ++ l.drop (k + 1)))] :=
  fnl_runX 300 [(2, 3)] [.k, .r (.int .i64 (s1)), .t false, .k, .k, .r (.int .i64 (s2)), .t false, .k, .k, .f [] [.pv (.slice none 0 0), .pv (.int .i64 (s2))] [] (.pv (.slice none 0 0)) 0 [], .k, .k, .k, .k, .k]
    (cut_x8 3 l k hkl1) (And.intro (cut_row8 l k hkl1) True.intro) (And.intro q1 (And.intro n1 (And.intro q2 (And.intro n2 (And.intro hgr (And.intro (Eq.refl (List.map (SV.ren (renU [] 2)) [.pv (.slice none 0 0), .pv (.int .i64 (s2))])) (And.intro (reflH (renU [] 2) []) (And.intro a1 (And.intro a2 True.intro))))))))) (by kernel_rfl)

set_option maxRecDepth 100000 in
theorem pa8_e1 {l : List Pt} {x a b e e2 e3 : Int} (c1 : FnL Try.prog 16 1 [crtS 0 x l] [(0, 0, rowC l)] (.pv (.int .i64 (e))) 0 []) (c2 : FnL Try.prog 40 1 [crtS 0 x l, .pv (certV a b)] [(0, 0, rowC l)] (.pv (.int .i64 (e2))) 0 []) (c3 : FnL Try.prog 41 1 [crtS 0 x l] [(0, 0, rowC l)] (.pv (.int .i64 (e3))) 0 []) (he : (e != 0) = true) :
    FnL Try.prog 10 1 [crtS 0 x l, .pv (certV a b)] [(0, 0, rowC l)] (.pv (.tuple #[.agg #[.int .i64 0, .slice none 0 0], .int .i64 0, .int .i64 e])) 0 [] :=
  fnl_run 300 [] [.f [0] [crtS 0 x l] [(0, 0, rowC l)] (.pv (.int .i64 (e))) 0 [], .f [0] [crtS 0 x l, .pv (certV a b)] [(0, 0, rowC l)] (.pv (.int .i64 (e2))) 0 [], .f [0] [crtS 0 x l] [(0, 0, rowC l)] (.pv (.int .i64 (e3))) 0 [], .k, .k, .t true, .t true]
     True.intro (And.intro c1 (And.intro (Eq.refl (List.map (SV.ren (renU [0] 4)) [crtS 0 x l])) (And.intro (reflH (renU [0] 4) [(0, 0, rowC l)]) (And.intro c2 (And.intro (Eq.refl (List.map (SV.ren (renU [0] 4)) [crtS 0 x l, .pv (certV a b)])) (And.intro (reflH (renU [0] 4) [(0, 0, rowC l)]) (And.intro c3 (And.intro (Eq.refl (List.map (SV.ren (renU [0] 4)) [crtS 0 x l])) (And.intro (reflH (renU [0] 4) [(0, 0, rowC l)]) (And.intro he (And.intro he True.intro))))))))))) (by kernel_rfl)

set_option maxRecDepth 100000 in
theorem pa8_e2 {l : List Pt} {x a b e e3 : Int} (c1 : FnL Try.prog 16 1 [crtS 0 x l] [(0, 0, rowC l)] (.pv (.int .i64 (0))) 0 []) (c2 : FnL Try.prog 40 1 [crtS 0 x l, .pv (certV a b)] [(0, 0, rowC l)] (.pv (.int .i64 (e))) 0 []) (c3 : FnL Try.prog 41 1 [crtS 0 x l] [(0, 0, rowC l)] (.pv (.int .i64 (e3))) 0 []) (he : (e != 0) = true) :
    FnL Try.prog 10 1 [crtS 0 x l, .pv (certV a b)] [(0, 0, rowC l)] (.pv (.tuple #[.agg #[.int .i64 0, .slice none 0 0], .int .i64 0, .int .i64 e])) 0 [] :=
  fnl_run 300 [] [.f [0] [crtS 0 x l] [(0, 0, rowC l)] (.pv (.int .i64 (0))) 0 [], .f [0] [crtS 0 x l, .pv (certV a b)] [(0, 0, rowC l)] (.pv (.int .i64 (e))) 0 [], .f [0] [crtS 0 x l] [(0, 0, rowC l)] (.pv (.int .i64 (e3))) 0 [], .k, .k, .k, .k, .k, .t true, .t true]
     True.intro (And.intro c1 (And.intro (Eq.refl (List.map (SV.ren (renU [0] 4)) [crtS 0 x l])) (And.intro (reflH (renU [0] 4) [(0, 0, rowC l)]) (And.intro c2 (And.intro (Eq.refl (List.map (SV.ren (renU [0] 4)) [crtS 0 x l, .pv (certV a b)])) (And.intro (reflH (renU [0] 4) [(0, 0, rowC l)]) (And.intro c3 (And.intro (Eq.refl (List.map (SV.ren (renU [0] 4)) [crtS 0 x l])) (And.intro (reflH (renU [0] 4) [(0, 0, rowC l)]) (And.intro he (And.intro he True.intro))))))))))) (by kernel_rfl)

set_option maxRecDepth 100000 in
theorem pa8_e3 {l : List Pt} {x a b e : Int} (c1 : FnL Try.prog 16 1 [crtS 0 x l] [(0, 0, rowC l)] (.pv (.int .i64 (0))) 0 []) (c2 : FnL Try.prog 40 1 [crtS 0 x l, .pv (certV a b)] [(0, 0, rowC l)] (.pv (.int .i64 (0))) 0 []) (c3 : FnL Try.prog 41 1 [crtS 0 x l] [(0, 0, rowC l)] (.pv (.int .i64 (e))) 0 []) (he : (e != 0) = true) :
    FnL Try.prog 10 1 [crtS 0 x l, .pv (certV a b)] [(0, 0, rowC l)] (.pv (.tuple #[.agg #[.int .i64 0, .slice none 0 0], .int .i64 0, .int .i64 e])) 0 [] :=
  fnl_run 300 [] [.f [0] [crtS 0 x l] [(0, 0, rowC l)] (.pv (.int .i64 (0))) 0 [], .f [0] [crtS 0 x l, .pv (certV a b)] [(0, 0, rowC l)] (.pv (.int .i64 (0))) 0 [], .f [0] [crtS 0 x l] [(0, 0, rowC l)] (.pv (.int .i64 (e))) 0 [], .k, .k, .k, .k, .k, .k, .k, .k, .t true, .t true]
     True.intro (And.intro c1 (And.intro (Eq.refl (List.map (SV.ren (renU [0] 4)) [crtS 0 x l])) (And.intro (reflH (renU [0] 4) [(0, 0, rowC l)]) (And.intro c2 (And.intro (Eq.refl (List.map (SV.ren (renU [0] 4)) [crtS 0 x l, .pv (certV a b)])) (And.intro (reflH (renU [0] 4) [(0, 0, rowC l)]) (And.intro c3 (And.intro (Eq.refl (List.map (SV.ren (renU [0] 4)) [crtS 0 x l])) (And.intro (reflH (renU [0] 4) [(0, 0, rowC l)]) (And.intro he (And.intro he True.intro))))))))))) (by kernel_rfl)

set_option maxRecDepth 100000 in
theorem pa8_ok {l : List Pt} {x y a b : Int} (c1 : FnL Try.prog 16 1 [crtS 0 x l] [(0, 0, rowC l)] (.pv (.int .i64 (0))) 0 []) (c2 : FnL Try.prog 40 1 [crtS 0 x l, .pv (certV a b)] [(0, 0, rowC l)] (.pv (.int .i64 (0))) 0 []) (c3 : FnL Try.prog 41 1 [crtS 0 x l] [(0, 0, rowC l)] (.pv (.int .i64 (0))) 0 []) (hcat : FnL Try.prog 42 3 [.ps 2 0 2 2] [(2, 0, .ls 0 l.length), (2, 1, .ps 1 0 1 1), (1, 0, .pv (.int .i64 x)), (1, 1, .pv (.int .i64 a)), (1, 2, .pv (.int .i64 b)), (0, 0, rowC l)] (.ls 3 (l ++ [(Pt.mk x a b)]).length) 1 [(3, 0, rowC (l ++ [(Pt.mk x a b)]))]) (hy : Value.int .i64 (IntKind.i64.wrap (x + 1)) = .int .i64 (y)) :
    FnL Try.prog 10 1 [crtS 0 x l, .pv (certV a b)] [(0, 0, rowC l)] (.tu [.ag [.pv (.int .i64 y), .ls 1 (l ++ [(Pt.mk x a b)]).length], .one (.pv (.int .i64 x)), .one (.pv (.int .i64 0))]) 1 [(1, 0, rowC (l ++ [(Pt.mk x a b)]))] :=
  fnl_run 300 [(1, 7)] [.f [0] [crtS 0 x l] [(0, 0, rowC l)] (.pv (.int .i64 (0))) 0 [], .f [0] [crtS 0 x l, .pv (certV a b)] [(0, 0, rowC l)] (.pv (.int .i64 (0))) 0 [], .f [0] [crtS 0 x l] [(0, 0, rowC l)] (.pv (.int .i64 (0))) 0 [], .k, .k, .k, .k, .k, .k, .k, .k, .k, .k, .k, .k, .f [0,5,6] [.ps 2 0 2 2] [(2, 0, .ls 0 l.length), (2, 1, .ps 1 0 1 1), (1, 0, .pv (.int .i64 x)), (1, 1, .pv (.int .i64 a)), (1, 2, .pv (.int .i64 b)), (0, 0, rowC l)] (.ls 3 (l ++ [(Pt.mk x a b)]).length) 1 [(3, 0, rowC (l ++ [(Pt.mk x a b)]))], .r (.int .i64 (y))]
     (reflH (renN [(1, 7)]) [(1, 0, rowC (l ++ [(Pt.mk x a b)]))]) (And.intro c1 (And.intro (Eq.refl (List.map (SV.ren (renU [0] 4)) [crtS 0 x l])) (And.intro (reflH (renU [0] 4) [(0, 0, rowC l)]) (And.intro c2 (And.intro (Eq.refl (List.map (SV.ren (renU [0] 4)) [crtS 0 x l, .pv (certV a b)])) (And.intro (reflH (renU [0] 4) [(0, 0, rowC l)]) (And.intro c3 (And.intro (Eq.refl (List.map (SV.ren (renU [0] 4)) [crtS 0 x l])) (And.intro (reflH (renU [0] 4) [(0, 0, rowC l)]) (And.intro hcat (And.intro (Eq.refl (List.map (SV.ren (renU [0,5,6] 7)) [.ps 2 0 2 2])) (And.intro (reflH (renU [0,5,6] 7) [(2, 0, .ls 0 l.length), (2, 1, .ps 1 0 1 1), (1, 0, .pv (.int .i64 x)), (1, 1, .pv (.int .i64 a)), (1, 2, .pv (.int .i64 b)), (0, 0, rowC l)]) (And.intro hy True.intro))))))))))))) (by kernel_rfl)

set_option maxRecDepth 100000 in
theorem pr8_err {l : List Pt} {x n a b e : Int} (hg : FnL Try.prog 12 1 [crtS 0 x l, .pv (.int .i64 (n))] [(0, 0, rowC l)] (.pv (.tuple #[certV a b, .int .i64 e])) 0 []) (he : (e != 0) = true) :
    FnL Try.prog 11 1 [crtS 0 x l, .pv (.int .i64 (n))] [(0, 0, rowC l)] (.pv (.tuple #[.agg #[.int .i64 0, .slice none 0 0], certV 0 0, .int .i64 e])) 0 [] :=
  fnl_run 300 [] [.f [0] [crtS 0 x l, .pv (.int .i64 (n))] [(0, 0, rowC l)] (.pv (.tuple #[certV a b, .int .i64 e])) 0 [], .t true]
     True.intro (And.intro hg (And.intro (Eq.refl (List.map (SV.ren (renU [0] 4)) [crtS 0 x l, .pv (.int .i64 (n))])) (And.intro (reflH (renU [0] 4) [(0, 0, rowC l)]) (And.intro he True.intro)))) (by kernel_rfl)

set_option maxRecDepth 100000 in
theorem pr8_ok {l : List Pt} {k : Nat} {x n a b : Int} (hg : FnL Try.prog 12 1 [crtS 0 x l, .pv (.int .i64 (n))] [(0, 0, rowC l)] (.pv (.tuple #[certV a b, .int .i64 0])) 0 []) (hf : FnL Try.prog 43 1 [crtS 0 x l, .pv (.int .i64 (n))] [(0, 0, rowC l)] (.pv (.tuple #[.int .i64 (k : Int), .bool true])) 0 []) (hkl : k ≤ l.length) (hkl1 : k + 1 ≤ l.length) (hk1 : Value.int .i64 (IntKind.i64.wrap ((k : Int) + 1)) = .int .i64 (((k + 1 : Nat) : Int))) (hcut : FnL Try.prog 42 2 [.ps 1 0 2 2] [(1, 0, .lq 0 3 0 k), (1, 1, .lq 0 3 (0 + (k + 1)) (l.length - (k + 1))), (0, 0, rowC l)] (.ls 2 (l.take k ++ l.drop (k + 1)).length) 1 [(2, 0, rowC (l.take k ++ l.drop (k + 1)))]) :
    FnL Try.prog 11 1 [crtS 0 x l, .pv (.int .i64 (n))] [(0, 0, rowC l)] (.tu [.ag [.pv (.int .i64 x), .ls 1 (l.take k ++ l.drop (k + 1)).length], .one (.pv (certV a b)), .one (.pv (.int .i64 0))]) 1 [(1, 0, rowC (l.take k ++ l.drop (k + 1)))] :=
  fnl_run 300 [(1, 6)] [.f [0] [crtS 0 x l, .pv (.int .i64 (n))] [(0, 0, rowC l)] (.pv (.tuple #[certV a b, .int .i64 0])) 0 [], .k, .f [0] [crtS 0 x l, .pv (.int .i64 (n))] [(0, 0, rowC l)] (.pv (.tuple #[.int .i64 (k : Int), .bool true])) 0 [], .md, .k, .r (.int .i64 (((k + 1 : Nat) : Int))), .k, .f [0,5] [.ps 1 0 2 2] [(1, 0, .lq 0 3 0 k), (1, 1, .lq 0 3 (0 + (k + 1)) (l.length - (k + 1))), (0, 0, rowC l)] (.ls 2 (l.take k ++ l.drop (k + 1)).length) 1 [(2, 0, rowC (l.take k ++ l.drop (k + 1)))]]
     (reflH (renN [(1, 6)]) [(1, 0, rowC (l.take k ++ l.drop (k + 1)))]) (And.intro hg (And.intro (Eq.refl (List.map (SV.ren (renU [0] 4)) [crtS 0 x l, .pv (.int .i64 (n))])) (And.intro (reflH (renU [0] 4) [(0, 0, rowC l)]) (And.intro hf (And.intro (Eq.refl (List.map (SV.ren (renU [0] 5)) [crtS 0 x l, .pv (.int .i64 (n))])) (And.intro (reflH (renU [0] 5) [(0, 0, rowC l)]) (And.intro True.intro (And.intro (Int.natCast_nonneg k) (And.intro (Nat.zero_le k) (And.intro hkl (And.intro hk1 (And.intro (Int.natCast_nonneg (k + 1)) (And.intro True.intro (And.intro hkl1 (And.intro (Nat.le_refl l.length) (And.intro hcut (And.intro (Eq.refl (List.map (SV.ren (renU [0,5] 6)) [.ps 1 0 2 2])) (And.intro (reflH (renU [0,5] 6) [(1, 0, .lq 0 3 0 k), (1, 1, .lq 0 3 (0 + (k + 1)) (l.length - (k + 1))), (0, 0, rowC l)]) True.intro)))))))))))))))))) (by kernel_rfl)

set_option maxRecDepth 100000 in
theorem new8  :
    Pure Try.prog 26 #[] (.agg #[.int .i64 0, .slice none 0 0]) :=
  pure_run (args := []) 300 []
    (And.intro rfl True.intro) (by kernel_rfl)

end Go.Proofs.Ytjjmnoiffpnphaa
