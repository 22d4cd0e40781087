/-
  Leader, Order and Rank of package field, path by path. Conditions: none.
-/
import Derived.Test.YtgpbofinbpcceaaFa
namespace Go.Proofs.Ytgpbofinbpcceaa
open Go.RowKit
set_option maxRecDepth 100000 in
theorem lf_eq {p q : Pt} {tn td : Int} (he : (p.id == q.id) = true) :
    FnL Try.prog 81 1 [.pv (ptV p), .pv (ptV q), .pp 0 0] [(0, 0, .pv (.int .i64 tn)), (0, 1, .pv (.int .i64 td))] (.pv (.int .i64 (0))) 0 [] :=
  fnl_run 300 [] [.t true]
     True.intro (And.intro he True.intro) (by kernel_rfl)

set_option maxRecDepth 100000 in
theorem lf_lt {p q : Pt} {tn td : Int} (he : (p.id == q.id) = false) (ha : Pure Try.prog 41 #[pointV p.id p.a p.b, pointV q.id q.a q.b, ratioV tn td] (.tuple #[.bool true, .int .i64 0])) :
    FnL Try.prog 81 1 [.pv (ptV p), .pv (ptV q), .pp 0 0] [(0, 0, .pv (.int .i64 tn)), (0, 1, .pv (.int .i64 td))] (.pv (.int .i64 (-1))) 0 [] :=
  fnl_run 300 [] [.t false, .r (.tuple #[.bool true, .int .i64 0])]
     True.intro (And.intro he (And.intro ha True.intro)) (by kernel_rfl)

set_option maxRecDepth 100000 in
theorem lf_gt {p q : Pt} {tn td : Int} (he : (p.id == q.id) = false) (ha : Pure Try.prog 41 #[pointV p.id p.a p.b, pointV q.id q.a q.b, ratioV tn td] (.tuple #[.bool false, .int .i64 0])) :
    FnL Try.prog 81 1 [.pv (ptV p), .pv (ptV q), .pp 0 0] [(0, 0, .pv (.int .i64 tn)), (0, 1, .pv (.int .i64 td))] (.pv (.int .i64 (1))) 0 [] :=
  fnl_run 300 [] [.t false, .r (.tuple #[.bool false, .int .i64 0])]
     True.intro (And.intro he (And.intro ha True.intro)) (by kernel_rfl)

set_option maxRecDepth 100000 in
theorem plead_err {l : List Pt} {tn td : Int} {e : Int} (hc : FnL Try.prog 46 1 [fldS 0 l, .pv (ratioV tn td)] [(0, 0, rowP l)] (.pv (.int .i64 (e))) 0 []) (he : (e != 0) = true) :
    FnL Try.prog 14 1 [fldS 0 l, .pv (ratioV tn td)] [(0, 0, rowP l)] (.pv (.tuple #[.int .i64 (0), .int .i64 (e)])) 0 [] :=
  fnl_run 300 [] [.f [0] [fldS 0 l, .pv (ratioV tn td)] [(0, 0, rowP l)] (.pv (.int .i64 (e))) 0 [], .t true]
     True.intro (And.intro hc (And.intro (Eq.refl (List.map (SV.ren (renU [0] 3)) [fldS 0 l, .pv (ratioV tn td)])) (And.intro (reflH (renU [0] 3) [(0, 0, rowP l)]) (And.intro he True.intro)))) (by kernel_rfl)

set_option maxRecDepth 100000 in
theorem plead_no {l : List Pt} {tn td : Int} (hc : FnL Try.prog 46 1 [fldS 0 l, .pv (ratioV tn td)] [(0, 0, rowP l)] (.pv (.int .i64 (0))) 0 []) (h0 : ((l.length : Int) == 0) = true) :
    FnL Try.prog 14 1 [fldS 0 l, .pv (ratioV tn td)] [(0, 0, rowP l)] (.pv (.tuple #[.int .i64 (0), .int .i64 (42)])) 0 [] :=
  fnl_run 300 [] [.f [0] [fldS 0 l, .pv (ratioV tn td)] [(0, 0, rowP l)] (.pv (.int .i64 (0))) 0 [], .k, .t true]
     True.intro (And.intro hc (And.intro (Eq.refl (List.map (SV.ren (renU [0] 3)) [fldS 0 l, .pv (ratioV tn td)])) (And.intro (reflH (renU [0] 3) [(0, 0, rowP l)]) (And.intro h0 True.intro)))) (by kernel_rfl)

set_option maxRecDepth 100000 in
theorem clone_path {l : List Pt} (h0 : 0 < l.length) (hn : 0 + l.length ≤ 1000000) :
    FnL Try.prog 49 1 [.ls 0 l.length] [(0, 0, rowP l)] (.ls 1 l.length) 1 [(1, 0, rowP l)] :=
  fnl_runX 300 [(1, 2)] [.t false]
    (clone_x l) (And.intro (twin_row l) True.intro) (And.intro h0 (And.intro hn True.intro)) (by kernel_rfl)

set_option maxRecDepth 100000 in
theorem clone_e {ad : Addr} {c : Nat} :
    FnL Try.prog 49 0 [.pv (.slice (some ad) 0 c)] [] (.ls 0 0) 1 [(0, 0, rowP ([] : List Pt))] :=
  fnl_run 300 [(0, 1)] [.k]
     (reflH (renN [(0, 1)]) [(0, 0, rowP ([] : List Pt))]) (And.intro (Nat.zero_le _ : 0 + 0 ≤ 1000000) True.intro) (by kernel_rfl)

theorem clone_nil {c : Nat} : Pure Try.prog 49 #[.slice none 0 c] (.slice none 0 0) :=
  pure_run (args := [.slice none 0 c]) 200 [] (And.intro rfl True.intro) (by kernel_rfl)

set_option maxRecDepth 100000 in
theorem pord_err {l : List Pt} {tn td : Int} {e : Int} (hc : FnL Try.prog 46 1 [fldS 0 l, .pv (ratioV tn td)] [(0, 0, rowP l)] (.pv (.int .i64 (e))) 0 []) (he : (e != 0) = true) :
    FnL Try.prog 15 1 [fldS 0 l, .pv (ratioV tn td)] [(0, 0, rowP l)] (.pv (.tuple #[.slice none 0 0, .int .i64 (e)])) 0 [] :=
  fnl_run 300 [] [.f [0] [fldS 0 l, .pv (ratioV tn td)] [(0, 0, rowP l)] (.pv (.int .i64 (e))) 0 [], .t true]
     True.intro (And.intro hc (And.intro (Eq.refl (List.map (SV.ren (renU [0] 3)) [fldS 0 l, .pv (ratioV tn td)])) (And.intro (reflH (renU [0] 3) [(0, 0, rowP l)]) (And.intro he True.intro)))) (by kernel_rfl)

set_option maxRecDepth 100000 in
theorem ord_next {l s : List Pt} {g : List Int} {k : Nat} {p : Pt} (hk : s[k]? = some p) (hin : 0 ≤ (k : Int) ∧ (k : Int) < (l.length : Int)) (hg : k < g.length) (hlt : decide ((k : Int) < (l.length : Int)) = true) (hs : Value.int .i64 (IntKind.i64.wrap ((k : Int) + 1)) = .int .i64 (((k + 1 : Nat) : Int))) {e : Exit} {tm2 : List (Nat × SV)} {hp2 : List (Nat × Nat × SV)}
    (r : RunsL Try.prog 1 1 (loopOf Try.prog 15 0) 41 6 ([(8, .ls 5 l.length), (27, .ls 3 l.length), (28, .pv (.int .i64 (l.length : Int))), (29, .pv (.int .i64 ((k + 1 : Nat) : Int)))]) ([(3, 0, .row 27 3 l.length (ptsV s)), (5, 0, .row 3 1 l.length (idsV (g.set k p.id)))]) e tm2 hp2) : RunsL Try.prog 1 1 (loopOf Try.prog 15 0) 41 6 ([(8, .ls 5 l.length), (27, .ls 3 l.length), (28, .pv (.int .i64 (l.length : Int))), (29, .pv (.int .i64 (k : Int)))]) ([(3, 0, .row 27 3 l.length (ptsV s)), (5, 0, .row 3 1 l.length (idsV g))]) e tm2 hp2 :=
  RunsL.next [] 300 [.t true, .r (ptV p), .w (idsV (g.set k p.id)), .r (.int .i64 (((k + 1 : Nat) : Int)))]
    (round_of (And.intro hlt (And.intro hin (And.intro (ra_pt hk) (And.intro hin (And.intro (seti_row g k p.id hg) (And.intro (seti_in g k hg) (And.intro hs True.intro))))))) (by kernel_rfl)) r

set_option maxRecDepth 100000 in
theorem ord_end {l s : List Pt} {g : List Int} {k : Nat} (hge : decide ((k : Int) < (l.length : Int)) = false) : RunsL Try.prog 1 1 (loopOf Try.prog 15 0) 41 6 ([(8, .ls 5 l.length), (27, .ls 3 l.length), (28, .pv (.int .i64 (l.length : Int))), (29, .pv (.int .i64 (k : Int)))]) ([(3, 0, .row 27 3 l.length (ptsV s)), (5, 0, .row 3 1 l.length (idsV g))]) (.exit 0) ([(8, .ls 5 l.length)]) ([(3, 0, .row 27 3 l.length (ptsV s)), (5, 0, .row 3 1 l.length (idsV g))]) :=
  RunsL.stop [] 300 [.t false] (fun h => by cases h)
    (round_of (And.intro hge True.intro) (by kernel_rfl))

set_option maxRecDepth 100000 in
theorem pord_yes {l s : List Pt} {g : List Int} {tn td : Int} (hc : FnL Try.prog 46 1 [fldS 0 l, .pv (ratioV tn td)] [(0, 0, rowP l)] (.pv (.int .i64 (0))) 0 []) (hcl : FnL Try.prog 49 1 [.ls 0 l.length] [(0, 0, rowP l)] (.ls 1 l.length) 1 [(1, 0, rowP l)]) (hso : FnM Try.prog 50 2 [.ls 0 l.length, .pc 81 [.pp 1 0]] [(0, 0, rowP l), (1, 0, .pv (.int .i64 tn)), (1, 1, .pv (.int .i64 td))] (.tuple #[]) 0 ⟨27, 3, l.length, ptsV l⟩ (ptsV s)) (hn0 : 0 ≤ (l.length : Int)) (hn1 : (l.length : Int) ≤ 1000000) (r0 : RunsL Try.prog 1 1 (loopOf Try.prog 15 0) 41 6 ([(8, .ls 5 l.length), (27, .ls 3 l.length), (28, .pv (.int .i64 (l.length : Int))), (29, .pv (.int .i64 ((0 : Nat) : Int)))]) ([(3, 0, .row 27 3 l.length (ptsV s)), (5, 0, .row 3 1 l.length (idsV (List.replicate l.length (0 : Int))))]) (.exit 0) ([(8, .ls 5 l.length)]) ([(3, 0, .row 27 3 l.length (ptsV s)), (5, 0, .row 3 1 l.length (idsV g))])) :
    FnL Try.prog 15 1 [fldS 0 l, .pv (ratioV tn td)] [(0, 0, rowP l)] (.tu [.one (.ls 1 l.length), .one (.pv (.int .i64 0))]) 1 [(1, 0, .row 3 1 l.length (idsV g))] :=
  fnl_run 300 [(1, 5)] [.f [0] [fldS 0 l, .pv (ratioV tn td)] [(0, 0, rowP l)] (.pv (.int .i64 (0))) 0 [], .k, .f [0] [.ls 0 l.length] [(0, 0, rowP l)] (.ls 1 l.length) 1 [(1, 0, rowP l)], .k, .m [3,4] [.ls 0 l.length, .pc 81 [.pp 1 0]] [(0, 0, rowP l), (1, 0, .pv (.int .i64 tn)), (1, 1, .pv (.int .i64 td))] (.tuple #[]) 0 (ptsV s), .l (.exit 0) ([(8, .ls 5 l.length), (27, .ls 3 l.length), (28, .pv (.int .i64 (l.length : Int))), (29, .pv (.int .i64 ((0 : Nat) : Int)))]) ([(3, 0, .row 27 3 l.length (ptsV s)), (5, 0, .row 3 1 l.length (idsV (List.replicate l.length (0 : Int))))]) ([(8, .ls 5 l.length)]) ([(3, 0, .row 27 3 l.length (ptsV s)), (5, 0, .row 3 1 l.length (idsV g))])]
     (reflH (renN [(1, 5)]) [(1, 0, .row 3 1 l.length (idsV g))]) (And.intro hc (And.intro (Eq.refl (List.map (SV.ren (renU [0] 3)) [fldS 0 l, .pv (ratioV tn td)])) (And.intro (reflH (renU [0] 3) [(0, 0, rowP l)]) (And.intro hcl (And.intro (Eq.refl (List.map (SV.ren (renU [0] 3)) [.ls 0 l.length])) (And.intro (reflH (renU [0] 3) [(0, 0, rowP l)]) (And.intro hso (And.intro (Eq.refl (List.map (SV.ren (renU [3,4] 5)) [.ls 0 l.length, .pc 81 [.pp 1 0]])) (And.intro (reflH (renU [3,4] 5) [(0, 0, rowP l), (1, 0, .pv (.int .i64 tn)), (1, 1, .pv (.int .i64 td))]) (And.intro hn0 (And.intro (Eq.refl (l.length : Int)) (And.intro hn1 (And.intro (reflT (renN []) ([(8, .ls 5 l.length), (27, .ls 3 l.length), (28, .pv (.int .i64 (l.length : Int))), (29, .pv (.int .i64 ((0 : Nat) : Int)))])) (And.intro (And.intro (Eq.refl (some (SV.row 27 3 l.length (ptsV s)))) (And.intro (rep_row l.length) True.intro)) (And.intro r0 True.intro))))))))))))))) (by kernel_rfl)

set_option maxRecDepth 100000 in
theorem rk_up {l : List Pt} {k a n : Nat} {p q : Pt} {c : Int} {tn td : Int} (hk : l[k]? = some p) (hin : 0 ≤ (k : Int) ∧ (k : Int) < (l.length : Int)) (hq : l[a]? = some q) (ha : 0 ≤ (a : Int) ∧ (a : Int) < (l.length : Int)) (hlt : decide ((k : Int) < (l.length : Int)) = true) (hc : FnL Try.prog 81 1 [.pv (ptV p), .pv (ptV q), .pp 0 0] [(0, 0, .pv (.int .i64 tn)), (0, 1, .pv (.int .i64 td))] (.pv (.int .i64 (c))) 0 []) (hz : decide (c < 0) = true) (hn : Value.int .i64 (IntKind.i64.wrap ((n : Int) + 1)) = .int .i64 (((n + 1 : Nat) : Int))) (hs : Value.int .i64 (IntKind.i64.wrap ((k : Int) + 1)) = .int .i64 (((k + 1 : Nat) : Int))) {e : Exit} {tm2 : List (Nat × SV)} {hp2 : List (Nat × Nat × SV)}
    (r : RunsL Try.prog 1 1 (loopOf Try.prog 16 0) 51 4 ([(3, .pp 1 0), (9, .pv (.int .i64 (a : Int))), (11, .pc 81 [.pp 3 0]), (12, .pv (.int .i64 ((n + 1 : Nat) : Int))), (32, .ls 0 l.length), (33, .pv (.int .i64 (l.length : Int))), (34, .pv (.int .i64 ((k + 1 : Nat) : Int)))]) ([(1, 0, .ls 0 l.length), (0, 0, rowP l), (3, 0, .pv (.int .i64 tn)), (3, 1, .pv (.int .i64 td))]) e tm2 hp2) : RunsL Try.prog 1 1 (loopOf Try.prog 16 0) 51 4 ([(3, .pp 1 0), (9, .pv (.int .i64 (a : Int))), (11, .pc 81 [.pp 3 0]), (12, .pv (.int .i64 (n : Int))), (32, .ls 0 l.length), (33, .pv (.int .i64 (l.length : Int))), (34, .pv (.int .i64 (k : Int)))]) ([(1, 0, .ls 0 l.length), (0, 0, rowP l), (3, 0, .pv (.int .i64 tn)), (3, 1, .pv (.int .i64 td))]) e tm2 hp2 :=
  RunsL.next [] 300 [.t true, .r (ptV p), .r (ptV q), .f [3] [.pv (ptV p), .pv (ptV q), .pp 0 0] [(0, 0, .pv (.int .i64 tn)), (0, 1, .pv (.int .i64 td))] (.pv (.int .i64 (c))) 0 [], .t true, .r (.int .i64 (((n + 1 : Nat) : Int))), .r (.int .i64 (((k + 1 : Nat) : Int)))]
    (round_of (And.intro hlt (And.intro hin (And.intro (ra_pt hk) (And.intro ha (And.intro (ra_pt hq) (And.intro hc (And.intro (Eq.refl (List.map (SV.ren (renU [3] 5)) [.pv (ptV p), .pv (ptV q), .pp 0 0])) (And.intro (reflH (renU [3] 5) [(0, 0, .pv (.int .i64 tn)), (0, 1, .pv (.int .i64 td))]) (And.intro hz (And.intro hn (And.intro hs True.intro))))))))))) (by kernel_rfl)) r

set_option maxRecDepth 100000 in
theorem rk_no {l : List Pt} {k a n : Nat} {p q : Pt} {c : Int} {tn td : Int} (hk : l[k]? = some p) (hin : 0 ≤ (k : Int) ∧ (k : Int) < (l.length : Int)) (hq : l[a]? = some q) (ha : 0 ≤ (a : Int) ∧ (a : Int) < (l.length : Int)) (hlt : decide ((k : Int) < (l.length : Int)) = true) (hc : FnL Try.prog 81 1 [.pv (ptV p), .pv (ptV q), .pp 0 0] [(0, 0, .pv (.int .i64 tn)), (0, 1, .pv (.int .i64 td))] (.pv (.int .i64 (c))) 0 []) (hz : decide (c < 0) = false) (hs : Value.int .i64 (IntKind.i64.wrap ((k : Int) + 1)) = .int .i64 (((k + 1 : Nat) : Int))) {e : Exit} {tm2 : List (Nat × SV)} {hp2 : List (Nat × Nat × SV)}
    (r : RunsL Try.prog 1 1 (loopOf Try.prog 16 0) 51 4 ([(3, .pp 1 0), (9, .pv (.int .i64 (a : Int))), (11, .pc 81 [.pp 3 0]), (12, .pv (.int .i64 (n : Int))), (32, .ls 0 l.length), (33, .pv (.int .i64 (l.length : Int))), (34, .pv (.int .i64 ((k + 1 : Nat) : Int)))]) ([(1, 0, .ls 0 l.length), (0, 0, rowP l), (3, 0, .pv (.int .i64 tn)), (3, 1, .pv (.int .i64 td))]) e tm2 hp2) : RunsL Try.prog 1 1 (loopOf Try.prog 16 0) 51 4 ([(3, .pp 1 0), (9, .pv (.int .i64 (a : Int))), (11, .pc 81 [.pp 3 0]), (12, .pv (.int .i64 (n : Int))), (32, .ls 0 l.length), (33, .pv (.int .i64 (l.length : Int))), (34, .pv (.int .i64 (k : Int)))]) ([(1, 0, .ls 0 l.length), (0, 0, rowP l), (3, 0, .pv (.int .i64 tn)), (3, 1, .pv (.int .i64 td))]) e tm2 hp2 :=
  RunsL.next [] 300 [.t true, .r (ptV p), .r (ptV q), .f [3] [.pv (ptV p), .pv (ptV q), .pp 0 0] [(0, 0, .pv (.int .i64 tn)), (0, 1, .pv (.int .i64 td))] (.pv (.int .i64 (c))) 0 [], .t false, .r (.int .i64 (((k + 1 : Nat) : Int)))]
    (round_of (And.intro hlt (And.intro hin (And.intro (ra_pt hk) (And.intro ha (And.intro (ra_pt hq) (And.intro hc (And.intro (Eq.refl (List.map (SV.ren (renU [3] 5)) [.pv (ptV p), .pv (ptV q), .pp 0 0])) (And.intro (reflH (renU [3] 5) [(0, 0, .pv (.int .i64 tn)), (0, 1, .pv (.int .i64 td))]) (And.intro hz (And.intro hs True.intro)))))))))) (by kernel_rfl)) r

set_option maxRecDepth 100000 in
theorem rk_end {l : List Pt} {k a n : Nat} {tn td : Int} (hge : decide ((k : Int) < (l.length : Int)) = false) : RunsL Try.prog 1 1 (loopOf Try.prog 16 0) 51 4 ([(3, .pp 1 0), (9, .pv (.int .i64 (a : Int))), (11, .pc 81 [.pp 3 0]), (12, .pv (.int .i64 (n : Int))), (32, .ls 0 l.length), (33, .pv (.int .i64 (l.length : Int))), (34, .pv (.int .i64 (k : Int)))]) ([(1, 0, .ls 0 l.length), (0, 0, rowP l), (3, 0, .pv (.int .i64 tn)), (3, 1, .pv (.int .i64 td))]) (.exit 0) ([(12, .pv (.int .i64 (n : Int)))]) ([]) :=
  RunsL.stop [] 300 [.t false] (fun h => by cases h)
    (round_of (And.intro hge True.intro) (by kernel_rfl))

set_option maxRecDepth 100000 in
theorem prank_err {l : List Pt} {e : Int} {tn td : Int} {id : Int} (hc : FnL Try.prog 46 1 [fldS 0 l, .pv (ratioV tn td)] [(0, 0, rowP l)] (.pv (.int .i64 (e))) 0 []) (he : (e != 0) = true) :
    FnL Try.prog 16 1 [fldS 0 l, .pv (.int .i64 (id)), .pv (ratioV tn td)] [(0, 0, rowP l)] (.pv (.tuple #[.int .i64 (0), .int .i64 (e)])) 0 [] :=
  fnl_run 300 [] [.f [0] [fldS 0 l, .pv (ratioV tn td)] [(0, 0, rowP l)] (.pv (.int .i64 (e))) 0 [], .t true]
     True.intro (And.intro hc (And.intro (Eq.refl (List.map (SV.ren (renU [0] 3)) [fldS 0 l, .pv (ratioV tn td)])) (And.intro (reflH (renU [0] 3) [(0, 0, rowP l)]) (And.intro he True.intro)))) (by kernel_rfl)

set_option maxRecDepth 100000 in
theorem prank_no {l : List Pt} {k : Nat} {tn td : Int} {id : Int} (hc : FnL Try.prog 46 1 [fldS 0 l, .pv (ratioV tn td)] [(0, 0, rowP l)] (.pv (.int .i64 (0))) 0 []) (hf : FnL Try.prog 43 1 [fldS 0 l, .pv (.int .i64 (id))] [(0, 0, rowP l)] (.pv (.tuple #[.int .i64 (k : Int), .bool false])) 0 []) :
    FnL Try.prog 16 1 [fldS 0 l, .pv (.int .i64 (id)), .pv (ratioV tn td)] [(0, 0, rowP l)] (.pv (.tuple #[.int .i64 (0), .int .i64 (6)])) 0 [] :=
  fnl_run 300 [] [.f [0] [fldS 0 l, .pv (ratioV tn td)] [(0, 0, rowP l)] (.pv (.int .i64 (0))) 0 [], .k, .f [0] [fldS 0 l, .pv (.int .i64 (id))] [(0, 0, rowP l)] (.pv (.tuple #[.int .i64 (k : Int), .bool false])) 0 [], .k]
     True.intro (And.intro hc (And.intro (Eq.refl (List.map (SV.ren (renU [0] 3)) [fldS 0 l, .pv (ratioV tn td)])) (And.intro (reflH (renU [0] 3) [(0, 0, rowP l)]) (And.intro hf (And.intro (Eq.refl (List.map (SV.ren (renU [0] 3)) [fldS 0 l, .pv (.int .i64 (id))])) (And.intro (reflH (renU [0] 3) [(0, 0, rowP l)]) True.intro)))))) (by kernel_rfl)

set_option maxRecDepth 100000 in
theorem prank_yes {l : List Pt} {a n : Nat} {tn td : Int} {id : Int} (hc : FnL Try.prog 46 1 [fldS 0 l, .pv (ratioV tn td)] [(0, 0, rowP l)] (.pv (.int .i64 (0))) 0 []) (hf : FnL Try.prog 43 1 [fldS 0 l, .pv (.int .i64 (id))] [(0, 0, rowP l)] (.pv (.tuple #[.int .i64 (a : Int), .bool true])) 0 []) (r0 : RunsL Try.prog 1 1 (loopOf Try.prog 16 0) 51 4 ([(3, .pp 1 0), (9, .pv (.int .i64 (a : Int))), (11, .pc 81 [.pp 3 0]), (12, .pv (.int .i64 ((0 : Nat) : Int))), (32, .ls 0 l.length), (33, .pv (.int .i64 (l.length : Int))), (34, .pv (.int .i64 ((0 : Nat) : Int)))]) ([(1, 0, .ls 0 l.length), (0, 0, rowP l), (3, 0, .pv (.int .i64 tn)), (3, 1, .pv (.int .i64 td))]) (.exit 0) ([(12, .pv (.int .i64 (n : Int)))]) ([])) :
    FnL Try.prog 16 1 [fldS 0 l, .pv (.int .i64 (id)), .pv (ratioV tn td)] [(0, 0, rowP l)] (.pv (.tuple #[.int .i64 ((n : Int)), .int .i64 (0)])) 0 [] :=
  fnl_run 300 [] [.f [0] [fldS 0 l, .pv (ratioV tn td)] [(0, 0, rowP l)] (.pv (.int .i64 (0))) 0 [], .k, .f [0] [fldS 0 l, .pv (.int .i64 (id))] [(0, 0, rowP l)] (.pv (.tuple #[.int .i64 (a : Int), .bool true])) 0 [], .k, .k, .l (.exit 0) ([(3, .pp 1 0), (9, .pv (.int .i64 (a : Int))), (11, .pc 81 [.pp 3 0]), (12, .pv (.int .i64 ((0 : Nat) : Int))), (32, .ls 0 l.length), (33, .pv (.int .i64 (l.length : Int))), (34, .pv (.int .i64 ((0 : Nat) : Int)))]) ([(1, 0, .ls 0 l.length), (0, 0, rowP l), (3, 0, .pv (.int .i64 tn)), (3, 1, .pv (.int .i64 td))]) ([(12, .pv (.int .i64 (n : Int)))]) ([])]
     True.intro (And.intro hc (And.intro (Eq.refl (List.map (SV.ren (renU [0] 3)) [fldS 0 l, .pv (ratioV tn td)])) (And.intro (reflH (renU [0] 3) [(0, 0, rowP l)]) (And.intro hf (And.intro (Eq.refl (List.map (SV.ren (renU [0] 3)) [fldS 0 l, .pv (.int .i64 (id))])) (And.intro (reflH (renU [0] 3) [(0, 0, rowP l)]) (And.intro (reflT (renN []) ([(3, .pp 1 0), (9, .pv (.int .i64 (a : Int))), (11, .pc 81 [.pp 3 0]), (12, .pv (.int .i64 ((0 : Nat) : Int))), (32, .ls 0 l.length), (33, .pv (.int .i64 (l.length : Int))), (34, .pv (.int .i64 ((0 : Nat) : Int)))])) (And.intro (reflH (renN []) ([(1, 0, .ls 0 l.length), (0, 0, rowP l), (3, 0, .pv (.int .i64 tn)), (3, 1, .pv (.int .i64 td))])) (And.intro r0 True.intro))))))))) (by kernel_rfl)

end Go.Proofs.Ytgpbofinbpcceaa
