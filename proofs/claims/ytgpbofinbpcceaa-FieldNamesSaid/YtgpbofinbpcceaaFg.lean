/-
  Binary search and Find of package field, path by path. Conditions: none.
-/
import Derived.Test.YtgpbofinbpcceaaFa
namespace Go.Proofs.Ytgpbofinbpcceaa
open Go.RowKit
set_option maxRecDepth 100000 in
theorem find1_lt {a pa pb id : Int} (n1 : (!(a == a)) = false) (n2 : (!(id == id)) = false) (h1 : decide (a < id) = true) : Pure Try.prog 78 #[pointV a pa pb, .int .i64 id] (.int .i64 (-1)) :=
  pure_run (args := [pointV a pa pb, .int .i64 id]) 200 [.k, .k, .t false, .k, .t false, .t true] (And.intro rfl (And.intro n1 (And.intro n2 (And.intro h1 True.intro)))) (by kernel_rfl)

set_option maxRecDepth 100000 in
theorem find1_gt {a pa pb id : Int} (n1 : (!(a == a)) = false) (n2 : (!(id == id)) = false) (h1 : decide (a < id) = false) (h2 : decide (a > id) = true) : Pure Try.prog 78 #[pointV a pa pb, .int .i64 id] (.int .i64 (1)) :=
  pure_run (args := [pointV a pa pb, .int .i64 id]) 200 [.k, .k, .t false, .k, .t false, .t false, .t true] (And.intro rfl (And.intro n1 (And.intro n2 (And.intro h1 (And.intro h2 True.intro))))) (by kernel_rfl)

set_option maxRecDepth 100000 in
theorem find1_eq {a pa pb id : Int} (n1 : (!(a == a)) = false) (n2 : (!(id == id)) = false) (h1 : decide (a < id) = false) (h2 : decide (a > id) = false) : Pure Try.prog 78 #[pointV a pa pb, .int .i64 id] (.int .i64 (0)) :=
  pure_run (args := [pointV a pa pb, .int .i64 id]) 200 [.k, .k, .t false, .k, .t false, .t false, .t false] (And.intro rfl (And.intro n1 (And.intro n2 (And.intro h1 (And.intro h2 True.intro))))) (by kernel_rfl)

set_option maxRecDepth 100000 in
theorem bs_up {l : List Pt} {i j h : Nat} {p : Pt} {c : Int} {id : Int} (hk : l[h]? = some p) (hin : 0 ≤ (h : Int) ∧ (h : Int) < (l.length : Int)) (hlt : decide ((i : Int) < (j : Int)) = true) (ha : Value.int .i64 (IntKind.i64.wrap ((i : Int) + (j : Int))) = .int .i64 ((i : Int) + (j : Int))) (hu : Value.int .u64 (IntKind.u64.wrap ((i : Int) + (j : Int))) = .int .u64 ((i : Int) + (j : Int))) (h1 : ¬ (1 : Int) < 0) (hs : Value.int .u64 (((i : Int) + (j : Int)).fdiv (2 ^ (min (1 : Int).toNat IntKind.u64.bits))) = .int .u64 (h : Int)) (hb : Value.int .i64 (IntKind.i64.wrap (h : Int)) = .int .i64 ((h : Int))) (hc : Pure Try.prog 78 #[pointV p.id p.a p.b, .int .i64 id] (.int .i64 (c))) (hz : decide (c < 0) = true) (hh : Value.int .i64 (IntKind.i64.wrap ((h : Int) + 1)) = .int .i64 (((h + 1 : Nat) : Int))) {e : Exit} {tm2 : List (Nat × SV)} {hp2 : List (Nat × Nat × SV)}
    (r : RunsL Try.prog 1 1 (loopOf Try.prog 77 0) 49 1 ([(0, .ls 0 l.length), (1, .pv (.int .i64 id)), (2, .pv (.func (.func 78) #[] #[])), (8, .pv (.int .i64 (l.length : Int))), (9, .pv (.int .i64 ((h + 1 : Nat) : Int))), (10, .pv (.int .i64 (j : Int)))]) ([(0, 0, rowP l)]) e tm2 hp2) : RunsL Try.prog 1 1 (loopOf Try.prog 77 0) 49 1 ([(0, .ls 0 l.length), (1, .pv (.int .i64 id)), (2, .pv (.func (.func 78) #[] #[])), (8, .pv (.int .i64 (l.length : Int))), (9, .pv (.int .i64 (i : Int))), (10, .pv (.int .i64 (j : Int)))]) ([(0, 0, rowP l)]) e tm2 hp2 :=
  RunsL.next [] 300 [.t true, .r (.int .i64 ((i : Int) + (j : Int))), .r (.int .u64 ((i : Int) + (j : Int))), .r (.int .u64 (h : Int)), .r (.int .i64 ((h : Int))), .r (ptV p), .r (.int .i64 (c)), .t true, .r (.int .i64 (((h + 1 : Nat) : Int)))]
    (round_of (And.intro hlt (And.intro ha (And.intro hu (And.intro h1 (And.intro hs (And.intro hb (And.intro hin (And.intro (ra_pt hk) (And.intro hc (And.intro hz (And.intro hh True.intro))))))))))) (by kernel_rfl)) r

set_option maxRecDepth 100000 in
theorem bs_dn {l : List Pt} {i j h : Nat} {p : Pt} {c : Int} {id : Int} (hk : l[h]? = some p) (hin : 0 ≤ (h : Int) ∧ (h : Int) < (l.length : Int)) (hlt : decide ((i : Int) < (j : Int)) = true) (ha : Value.int .i64 (IntKind.i64.wrap ((i : Int) + (j : Int))) = .int .i64 ((i : Int) + (j : Int))) (hu : Value.int .u64 (IntKind.u64.wrap ((i : Int) + (j : Int))) = .int .u64 ((i : Int) + (j : Int))) (h1 : ¬ (1 : Int) < 0) (hs : Value.int .u64 (((i : Int) + (j : Int)).fdiv (2 ^ (min (1 : Int).toNat IntKind.u64.bits))) = .int .u64 (h : Int)) (hb : Value.int .i64 (IntKind.i64.wrap (h : Int)) = .int .i64 ((h : Int))) (hc : Pure Try.prog 78 #[pointV p.id p.a p.b, .int .i64 id] (.int .i64 (c))) (hz : decide (c < 0) = false) {e : Exit} {tm2 : List (Nat × SV)} {hp2 : List (Nat × Nat × SV)}
    (r : RunsL Try.prog 1 1 (loopOf Try.prog 77 0) 49 1 ([(0, .ls 0 l.length), (1, .pv (.int .i64 id)), (2, .pv (.func (.func 78) #[] #[])), (8, .pv (.int .i64 (l.length : Int))), (9, .pv (.int .i64 (i : Int))), (10, .pv (.int .i64 (h : Int)))]) ([(0, 0, rowP l)]) e tm2 hp2) : RunsL Try.prog 1 1 (loopOf Try.prog 77 0) 49 1 ([(0, .ls 0 l.length), (1, .pv (.int .i64 id)), (2, .pv (.func (.func 78) #[] #[])), (8, .pv (.int .i64 (l.length : Int))), (9, .pv (.int .i64 (i : Int))), (10, .pv (.int .i64 (j : Int)))]) ([(0, 0, rowP l)]) e tm2 hp2 :=
  RunsL.next [] 300 [.t true, .r (.int .i64 ((i : Int) + (j : Int))), .r (.int .u64 ((i : Int) + (j : Int))), .r (.int .u64 (h : Int)), .r (.int .i64 ((h : Int))), .r (ptV p), .r (.int .i64 (c)), .t false]
    (round_of (And.intro hlt (And.intro ha (And.intro hu (And.intro h1 (And.intro hs (And.intro hb (And.intro hin (And.intro (ra_pt hk) (And.intro hc (And.intro hz True.intro)))))))))) (by kernel_rfl)) r

set_option maxRecDepth 100000 in
theorem bs_end {l : List Pt} {i j : Nat} {id : Int} (hge : decide ((i : Int) < (j : Int)) = false) : RunsL Try.prog 1 1 (loopOf Try.prog 77 0) 49 1 ([(0, .ls 0 l.length), (1, .pv (.int .i64 id)), (2, .pv (.func (.func 78) #[] #[])), (8, .pv (.int .i64 (l.length : Int))), (9, .pv (.int .i64 (i : Int))), (10, .pv (.int .i64 (j : Int)))]) ([(0, 0, rowP l)]) (.exit 0) ([(0, .ls 0 l.length), (1, .pv (.int .i64 id)), (2, .pv (.func (.func 78) #[] #[])), (8, .pv (.int .i64 (l.length : Int))), (9, .pv (.int .i64 (i : Int))), (10, .pv (.int .i64 (j : Int)))]) ([(0, 0, rowP l)]) :=
  RunsL.stop [] 300 [.t false] (fun h => by cases h)
    (round_of (And.intro hge True.intro) (by kernel_rfl))

set_option maxRecDepth 100000 in
theorem bsf_out {l : List Pt} {k : Nat} {id : Int} (r0 : RunsL Try.prog 1 1 (loopOf Try.prog 77 0) 49 1 ([(0, .ls 0 l.length), (1, .pv (.int .i64 id)), (2, .pv (.func (.func 78) #[] #[])), (8, .pv (.int .i64 (l.length : Int))), (9, .pv (.int .i64 ((0 : Nat) : Int))), (10, .pv (.int .i64 (l.length : Int)))]) ([(0, 0, rowP l)]) (.exit 0) ([(0, .ls 0 l.length), (1, .pv (.int .i64 id)), (2, .pv (.func (.func 78) #[] #[])), (8, .pv (.int .i64 (l.length : Int))), (9, .pv (.int .i64 (k : Int))), (10, .pv (.int .i64 (k : Int)))]) ([(0, 0, rowP l)])) (hge : decide ((k : Int) < (l.length : Int)) = false) :
    FnL Try.prog 77 1 [.ls 0 l.length, .pv (.int .i64 (id)), .pv (.func (.func 78) #[] #[])] [(0, 0, rowP l)] (.pv (.tuple #[.int .i64 (k : Int), .bool false])) 0 [] :=
  fnl_run 300 [] [.l (.exit 0) ([(0, .ls 0 l.length), (1, .pv (.int .i64 id)), (2, .pv (.func (.func 78) #[] #[])), (8, .pv (.int .i64 (l.length : Int))), (9, .pv (.int .i64 ((0 : Nat) : Int))), (10, .pv (.int .i64 (l.length : Int)))]) ([(0, 0, rowP l)]) ([(0, .ls 0 l.length), (1, .pv (.int .i64 id)), (2, .pv (.func (.func 78) #[] #[])), (8, .pv (.int .i64 (l.length : Int))), (9, .pv (.int .i64 (k : Int))), (10, .pv (.int .i64 (k : Int)))]) ([(0, 0, rowP l)]), .t false]
     True.intro (And.intro (reflT (renN []) ([(0, .ls 0 l.length), (1, .pv (.int .i64 id)), (2, .pv (.func (.func 78) #[] #[])), (8, .pv (.int .i64 (l.length : Int))), (9, .pv (.int .i64 ((0 : Nat) : Int))), (10, .pv (.int .i64 (l.length : Int)))])) (And.intro (reflH (renN []) ([(0, 0, rowP l)])) (And.intro r0 (And.intro hge True.intro)))) (by kernel_rfl)

set_option maxRecDepth 100000 in
theorem bsf_hit {l : List Pt} {k : Nat} {p : Pt} {c : Int} {id : Int} (r0 : RunsL Try.prog 1 1 (loopOf Try.prog 77 0) 49 1 ([(0, .ls 0 l.length), (1, .pv (.int .i64 id)), (2, .pv (.func (.func 78) #[] #[])), (8, .pv (.int .i64 (l.length : Int))), (9, .pv (.int .i64 ((0 : Nat) : Int))), (10, .pv (.int .i64 (l.length : Int)))]) ([(0, 0, rowP l)]) (.exit 0) ([(0, .ls 0 l.length), (1, .pv (.int .i64 id)), (2, .pv (.func (.func 78) #[] #[])), (8, .pv (.int .i64 (l.length : Int))), (9, .pv (.int .i64 (k : Int))), (10, .pv (.int .i64 (k : Int)))]) ([(0, 0, rowP l)])) (hk : l[k]? = some p) (hin : 0 ≤ (k : Int) ∧ (k : Int) < (l.length : Int)) (hlt : decide ((k : Int) < (l.length : Int)) = true) (hc : Pure Try.prog 78 #[pointV p.id p.a p.b, .int .i64 id] (.int .i64 (c))) (hz : (c == 0) = true) :
    FnL Try.prog 77 1 [.ls 0 l.length, .pv (.int .i64 (id)), .pv (.func (.func 78) #[] #[])] [(0, 0, rowP l)] (.pv (.tuple #[.int .i64 (k : Int), .bool true])) 0 [] :=
  fnl_run 300 [] [.l (.exit 0) ([(0, .ls 0 l.length), (1, .pv (.int .i64 id)), (2, .pv (.func (.func 78) #[] #[])), (8, .pv (.int .i64 (l.length : Int))), (9, .pv (.int .i64 ((0 : Nat) : Int))), (10, .pv (.int .i64 (l.length : Int)))]) ([(0, 0, rowP l)]) ([(0, .ls 0 l.length), (1, .pv (.int .i64 id)), (2, .pv (.func (.func 78) #[] #[])), (8, .pv (.int .i64 (l.length : Int))), (9, .pv (.int .i64 (k : Int))), (10, .pv (.int .i64 (k : Int)))]) ([(0, 0, rowP l)]), .t true, .r (ptV p), .r (.int .i64 (c)), .t true]
     True.intro (And.intro (reflT (renN []) ([(0, .ls 0 l.length), (1, .pv (.int .i64 id)), (2, .pv (.func (.func 78) #[] #[])), (8, .pv (.int .i64 (l.length : Int))), (9, .pv (.int .i64 ((0 : Nat) : Int))), (10, .pv (.int .i64 (l.length : Int)))])) (And.intro (reflH (renN []) ([(0, 0, rowP l)])) (And.intro r0 (And.intro hlt (And.intro hin (And.intro (ra_pt hk) (And.intro hc (And.intro hz True.intro)))))))) (by kernel_rfl)

set_option maxRecDepth 100000 in
theorem bsf_no {l : List Pt} {k : Nat} {p : Pt} {c : Int} {id : Int} (r0 : RunsL Try.prog 1 1 (loopOf Try.prog 77 0) 49 1 ([(0, .ls 0 l.length), (1, .pv (.int .i64 id)), (2, .pv (.func (.func 78) #[] #[])), (8, .pv (.int .i64 (l.length : Int))), (9, .pv (.int .i64 ((0 : Nat) : Int))), (10, .pv (.int .i64 (l.length : Int)))]) ([(0, 0, rowP l)]) (.exit 0) ([(0, .ls 0 l.length), (1, .pv (.int .i64 id)), (2, .pv (.func (.func 78) #[] #[])), (8, .pv (.int .i64 (l.length : Int))), (9, .pv (.int .i64 (k : Int))), (10, .pv (.int .i64 (k : Int)))]) ([(0, 0, rowP l)])) (hk : l[k]? = some p) (hin : 0 ≤ (k : Int) ∧ (k : Int) < (l.length : Int)) (hlt : decide ((k : Int) < (l.length : Int)) = true) (hc : Pure Try.prog 78 #[pointV p.id p.a p.b, .int .i64 id] (.int .i64 (c))) (hz : (c == 0) = false) :
    FnL Try.prog 77 1 [.ls 0 l.length, .pv (.int .i64 (id)), .pv (.func (.func 78) #[] #[])] [(0, 0, rowP l)] (.pv (.tuple #[.int .i64 (k : Int), .bool false])) 0 [] :=
  fnl_run 300 [] [.l (.exit 0) ([(0, .ls 0 l.length), (1, .pv (.int .i64 id)), (2, .pv (.func (.func 78) #[] #[])), (8, .pv (.int .i64 (l.length : Int))), (9, .pv (.int .i64 ((0 : Nat) : Int))), (10, .pv (.int .i64 (l.length : Int)))]) ([(0, 0, rowP l)]) ([(0, .ls 0 l.length), (1, .pv (.int .i64 id)), (2, .pv (.func (.func 78) #[] #[])), (8, .pv (.int .i64 (l.length : Int))), (9, .pv (.int .i64 (k : Int))), (10, .pv (.int .i64 (k : Int)))]) ([(0, 0, rowP l)]), .t true, .r (ptV p), .r (.int .i64 (c)), .t false]
     True.intro (And.intro (reflT (renN []) ([(0, .ls 0 l.length), (1, .pv (.int .i64 id)), (2, .pv (.func (.func 78) #[] #[])), (8, .pv (.int .i64 (l.length : Int))), (9, .pv (.int .i64 ((0 : Nat) : Int))), (10, .pv (.int .i64 (l.length : Int)))])) (And.intro (reflH (renN []) ([(0, 0, rowP l)])) (And.intro r0 (And.intro hlt (And.intro hin (And.intro (ra_pt hk) (And.intro hc (And.intro hz True.intro)))))))) (by kernel_rfl)

set_option maxRecDepth 100000 in
theorem find_path {l : List Pt} {k : Nat} {b : Bool} {id : Int} (hb : FnL Try.prog 77 1 [.ls 0 l.length, .pv (.int .i64 (id)), .pv (.func (.func 78) #[] #[])] [(0, 0, rowP l)] (.pv (.tuple #[.int .i64 (k : Int), .bool b])) 0 []) :
    FnL Try.prog 43 1 [fldS 0 l, .pv (.int .i64 (id))] [(0, 0, rowP l)] (.pv (.tuple #[.int .i64 (k : Int), .bool b])) 0 [] :=
  fnl_run 300 [] [.f [0] [.ls 0 l.length, .pv (.int .i64 (id)), .pv (.func (.func 78) #[] #[])] [(0, 0, rowP l)] (.pv (.tuple #[.int .i64 (k : Int), .bool b])) 0 []]
     True.intro (And.intro hb (And.intro (Eq.refl (List.map (SV.ren (renU [0] 2)) [.ls 0 l.length, .pv (.int .i64 (id)), .pv (.func (.func 78) #[] #[])])) (And.intro (reflH (renU [0] 2) [(0, 0, rowP l)]) True.intro))) (by kernel_rfl)

set_option maxRecDepth 100000 in
theorem pfind_err {l : List Pt} {id : Int} {e : Int} (hc : FnL Try.prog 17 1 [fldS 0 l] [(0, 0, rowP l)] (.pv (.int .i64 (e))) 0 []) (he : (e != 0) = true) :
    FnL Try.prog 10 1 [fldS 0 l, .pv (.int .i64 (id))] [(0, 0, rowP l)] (.pv (.tuple #[pointV 0 0 0, .int .i64 (e)])) 0 [] :=
  fnl_run 300 [] [.f [0] [fldS 0 l] [(0, 0, rowP l)] (.pv (.int .i64 (e))) 0 [], .t true]
     True.intro (And.intro hc (And.intro (Eq.refl (List.map (SV.ren (renU [0] 3)) [fldS 0 l])) (And.intro (reflH (renU [0] 3) [(0, 0, rowP l)]) (And.intro he True.intro)))) (by kernel_rfl)

set_option maxRecDepth 100000 in
theorem pfind_no {l : List Pt} {k : Nat} {id : Int} (hc : FnL Try.prog 17 1 [fldS 0 l] [(0, 0, rowP l)] (.pv (.int .i64 (0))) 0 []) (hf : FnL Try.prog 43 1 [fldS 0 l, .pv (.int .i64 (id))] [(0, 0, rowP l)] (.pv (.tuple #[.int .i64 (k : Int), .bool false])) 0 []) :
    FnL Try.prog 10 1 [fldS 0 l, .pv (.int .i64 (id))] [(0, 0, rowP l)] (.pv (.tuple #[pointV 0 0 0, .int .i64 (6)])) 0 [] :=
  fnl_run 300 [] [.f [0] [fldS 0 l] [(0, 0, rowP l)] (.pv (.int .i64 (0))) 0 [], .k, .f [0] [fldS 0 l, .pv (.int .i64 (id))] [(0, 0, rowP l)] (.pv (.tuple #[.int .i64 (k : Int), .bool false])) 0 [], .k]
     True.intro (And.intro hc (And.intro (Eq.refl (List.map (SV.ren (renU [0] 3)) [fldS 0 l])) (And.intro (reflH (renU [0] 3) [(0, 0, rowP l)]) (And.intro hf (And.intro (Eq.refl (List.map (SV.ren (renU [0] 3)) [fldS 0 l, .pv (.int .i64 (id))])) (And.intro (reflH (renU [0] 3) [(0, 0, rowP l)]) True.intro)))))) (by kernel_rfl)

set_option maxRecDepth 100000 in
theorem grow_0 {s : Int} (h0 : decide (s < 0) = false) (hs : Value.int .i64 (IntKind.i64.wrap (s - 0)) = .int .i64 (s)) (hg : decide (s > 0) = false) :
    FnL Try.prog 112 0 [.pv (.slice none 0 0), .pv (.int .i64 (s))] [] (.pv (.slice none 0 0)) 0 [] :=
  fnl_run 300 [] [.t false, .k, .r (.int .i64 (s)), .t false]
     True.intro (And.intro h0 (And.intro hs (And.intro hg True.intro))) (by kernel_rfl)

set_option maxRecDepth 100000 in
theorem grow_s {s : Int} (h0 : decide (s < 0) = false) (hs : Value.int .i64 (IntKind.i64.wrap (s - 0)) = .int .i64 (s)) (hg : decide (s > 0) = true) (a0 : 0 ≤ s) (a1 : s ≤ 1000000) :
    FnL Try.prog 112 0 [.pv (.slice none 0 0), .pv (.int .i64 (s))] [] (.ls 0 0) 1 [(0, 0, rowP ([] : List Pt))] :=
  fnl_run 300 [(0, 1)] [.t false, .k, .r (.int .i64 (s)), .t true, .w []]
     (reflH (renN [(0, 1)]) [(0, 0, rowP ([] : List Pt))]) (And.intro h0 (And.intro hs (And.intro hg (And.intro a0 (And.intro a1 (And.intro (Int.le_refl (0 : Int)) (And.intro (Nat.zero_le s.toNat) True.intro))))))) (by kernel_rfl)

end Go.Proofs.Ytgpbofinbpcceaa
