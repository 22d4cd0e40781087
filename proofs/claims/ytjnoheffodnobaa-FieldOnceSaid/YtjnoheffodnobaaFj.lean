/-
  Leader, Order and Rank of the reference, path by path. Conditions: none.
-/
import Derived.Test.YtjnoheffodnobaaFa
namespace Go.Proofs.Ytjnoheffodnobaa
open Go.RowKit

set_option maxRecDepth 100000 in
theorem ra_self {l : List Pt} {k n : Nat} {p q : Pt} {tn td : Int} (hk : l[k]? = some q) (hin : 0 ≤ (k : Int) ∧ (k : Int) < (l.length : Int)) (hlt : decide ((k : Int) < (l.length : Int)) = true) (hne : (!(q.id == p.id)) = false) (hs : Value.int .i64 (IntKind.i64.wrap ((k : Int) + 1)) = .int .i64 (((k + 1 : Nat) : Int))) {e : Exit} {tm2 : List (Nat × SV)} {hp2 : List (Nat × Nat × SV)}
    (r : RunsL Try.prog 1 1 (loopOf Try.prog 50 0) 38 4 ([(3, .pp 1 0), (4, .pp 2 0), (5, .pp 3 0), (7, .pv (.int .i64 (n : Int))), (8, .pv (.int .i64 ((k + 1 : Nat) : Int)))]) ([(1, 0, .ls 0 l.length), (0, 0, rowP l), (2, 0, .pv (.int .i64 p.id)), (2, 1, .pv (.int .i64 p.a)), (2, 2, .pv (.int .i64 p.b)), (3, 0, .pv (.int .i64 tn)), (3, 1, .pv (.int .i64 td))]) e tm2 hp2) : RunsL Try.prog 1 1 (loopOf Try.prog 50 0) 38 4 ([(3, .pp 1 0), (4, .pp 2 0), (5, .pp 3 0), (7, .pv (.int .i64 (n : Int))), (8, .pv (.int .i64 (k : Int)))]) ([(1, 0, .ls 0 l.length), (0, 0, rowP l), (2, 0, .pv (.int .i64 p.id)), (2, 1, .pv (.int .i64 p.a)), (2, 2, .pv (.int .i64 p.b)), (3, 0, .pv (.int .i64 tn)), (3, 1, .pv (.int .i64 td))]) e tm2 hp2 :=
  RunsL.next [] 300 [.t true, .r (Value.int .i64 q.id), .t false, .r (.int .i64 (((k + 1 : Nat) : Int)))]
    (round_of (And.intro hlt (And.intro hin (And.intro (ra_id hk) (And.intro hne (And.intro hs True.intro))))) (by kernel_rfl)) r

set_option maxRecDepth 100000 in
theorem ra_no {l : List Pt} {k n : Nat} {p q : Pt} {tn td : Int} (hk : l[k]? = some q) (hin : 0 ≤ (k : Int) ∧ (k : Int) < (l.length : Int)) (hlt : decide ((k : Int) < (l.length : Int)) = true) (hne : (!(q.id == p.id)) = true) (hl : Pure Try.prog 64 #[pointV q.id q.a q.b, pointV p.id p.a p.b, ratioV tn td] (.bool false)) (hs : Value.int .i64 (IntKind.i64.wrap ((k : Int) + 1)) = .int .i64 (((k + 1 : Nat) : Int))) {e : Exit} {tm2 : List (Nat × SV)} {hp2 : List (Nat × Nat × SV)}
    (r : RunsL Try.prog 1 1 (loopOf Try.prog 50 0) 38 4 ([(3, .pp 1 0), (4, .pp 2 0), (5, .pp 3 0), (7, .pv (.int .i64 (n : Int))), (8, .pv (.int .i64 ((k + 1 : Nat) : Int)))]) ([(1, 0, .ls 0 l.length), (0, 0, rowP l), (2, 0, .pv (.int .i64 p.id)), (2, 1, .pv (.int .i64 p.a)), (2, 2, .pv (.int .i64 p.b)), (3, 0, .pv (.int .i64 tn)), (3, 1, .pv (.int .i64 td))]) e tm2 hp2) : RunsL Try.prog 1 1 (loopOf Try.prog 50 0) 38 4 ([(3, .pp 1 0), (4, .pp 2 0), (5, .pp 3 0), (7, .pv (.int .i64 (n : Int))), (8, .pv (.int .i64 (k : Int)))]) ([(1, 0, .ls 0 l.length), (0, 0, rowP l), (2, 0, .pv (.int .i64 p.id)), (2, 1, .pv (.int .i64 p.a)), (2, 2, .pv (.int .i64 p.b)), (3, 0, .pv (.int .i64 tn)), (3, 1, .pv (.int .i64 td))]) e tm2 hp2 :=
  RunsL.next [] 300 [.t true, .r (Value.int .i64 q.id), .t true, .r (ptV q), .r (.bool false), .r (.int .i64 (((k + 1 : Nat) : Int)))]
    (round_of (And.intro hlt (And.intro hin (And.intro (ra_id hk) (And.intro hne (And.intro hin (And.intro (ra_pt hk) (And.intro hl (And.intro hs True.intro)))))))) (by kernel_rfl)) r

set_option maxRecDepth 100000 in
theorem ra_up {l : List Pt} {k n : Nat} {p q : Pt} {tn td : Int} (hk : l[k]? = some q) (hin : 0 ≤ (k : Int) ∧ (k : Int) < (l.length : Int)) (hlt : decide ((k : Int) < (l.length : Int)) = true) (hne : (!(q.id == p.id)) = true) (hl : Pure Try.prog 64 #[pointV q.id q.a q.b, pointV p.id p.a p.b, ratioV tn td] (.bool true)) (hn : Value.int .i64 (IntKind.i64.wrap ((n : Int) + 1)) = .int .i64 (((n + 1 : Nat) : Int))) (hs : Value.int .i64 (IntKind.i64.wrap ((k : Int) + 1)) = .int .i64 (((k + 1 : Nat) : Int))) {e : Exit} {tm2 : List (Nat × SV)} {hp2 : List (Nat × Nat × SV)}
    (r : RunsL Try.prog 1 1 (loopOf Try.prog 50 0) 38 4 ([(3, .pp 1 0), (4, .pp 2 0), (5, .pp 3 0), (7, .pv (.int .i64 ((n + 1 : Nat) : Int))), (8, .pv (.int .i64 ((k + 1 : Nat) : Int)))]) ([(1, 0, .ls 0 l.length), (0, 0, rowP l), (2, 0, .pv (.int .i64 p.id)), (2, 1, .pv (.int .i64 p.a)), (2, 2, .pv (.int .i64 p.b)), (3, 0, .pv (.int .i64 tn)), (3, 1, .pv (.int .i64 td))]) e tm2 hp2) : RunsL Try.prog 1 1 (loopOf Try.prog 50 0) 38 4 ([(3, .pp 1 0), (4, .pp 2 0), (5, .pp 3 0), (7, .pv (.int .i64 (n : Int))), (8, .pv (.int .i64 (k : Int)))]) ([(1, 0, .ls 0 l.length), (0, 0, rowP l), (2, 0, .pv (.int .i64 p.id)), (2, 1, .pv (.int .i64 p.a)), (2, 2, .pv (.int .i64 p.b)), (3, 0, .pv (.int .i64 tn)), (3, 1, .pv (.int .i64 td))]) e tm2 hp2 :=
  RunsL.next [] 300 [.t true, .r (Value.int .i64 q.id), .t true, .r (ptV q), .r (.bool true), .r (.int .i64 (((n + 1 : Nat) : Int))), .r (.int .i64 (((k + 1 : Nat) : Int)))]
    (round_of (And.intro hlt (And.intro hin (And.intro (ra_id hk) (And.intro hne (And.intro hin (And.intro (ra_pt hk) (And.intro hl (And.intro hn (And.intro hs True.intro))))))))) (by kernel_rfl)) r

set_option maxRecDepth 100000 in
theorem ra_end {l : List Pt} {k n : Nat} {p : Pt} {tn td : Int} (hge : decide ((k : Int) < (l.length : Int)) = false) : RunsL Try.prog 1 1 (loopOf Try.prog 50 0) 38 4 ([(3, .pp 1 0), (4, .pp 2 0), (5, .pp 3 0), (7, .pv (.int .i64 (n : Int))), (8, .pv (.int .i64 (k : Int)))]) ([(1, 0, .ls 0 l.length), (0, 0, rowP l), (2, 0, .pv (.int .i64 p.id)), (2, 1, .pv (.int .i64 p.a)), (2, 2, .pv (.int .i64 p.b)), (3, 0, .pv (.int .i64 tn)), (3, 1, .pv (.int .i64 td))]) (.exit 0) ([(7, .pv (.int .i64 (n : Int)))]) ([]) :=
  RunsL.stop [] 300 [.t false] (fun h => by cases h)
    (round_of (And.intro hge True.intro) (by kernel_rfl))

set_option maxRecDepth 100000 in
theorem ra_path {l : List Pt} {n : Nat} {p : Pt} {tn td : Int} (r0 : RunsL Try.prog 1 1 (loopOf Try.prog 50 0) 38 4 ([(3, .pp 1 0), (4, .pp 2 0), (5, .pp 3 0), (7, .pv (.int .i64 ((0 : Nat) : Int))), (8, .pv (.int .i64 ((0 : Nat) : Int)))]) ([(1, 0, .ls 0 l.length), (0, 0, rowP l), (2, 0, .pv (.int .i64 p.id)), (2, 1, .pv (.int .i64 p.a)), (2, 2, .pv (.int .i64 p.b)), (3, 0, .pv (.int .i64 tn)), (3, 1, .pv (.int .i64 td))]) (.exit 0) ([(7, .pv (.int .i64 (n : Int)))]) ([])) :
    FnL Try.prog 50 1 [fldS 0 l, .pv (ptV p), .pv (ratioV tn td)] [(0, 0, rowP l)] (.pv (.int .i64 ((n : Int)))) 0 [] :=
  fnl_run 300 [] [.l (.exit 0) ([(3, .pp 1 0), (4, .pp 2 0), (5, .pp 3 0), (7, .pv (.int .i64 ((0 : Nat) : Int))), (8, .pv (.int .i64 ((0 : Nat) : Int)))]) ([(1, 0, .ls 0 l.length), (0, 0, rowP l), (2, 0, .pv (.int .i64 p.id)), (2, 1, .pv (.int .i64 p.a)), (2, 2, .pv (.int .i64 p.b)), (3, 0, .pv (.int .i64 tn)), (3, 1, .pv (.int .i64 td))]) ([(7, .pv (.int .i64 (n : Int)))]) ([])]
     True.intro (And.intro (reflT (renN []) ([(3, .pp 1 0), (4, .pp 2 0), (5, .pp 3 0), (7, .pv (.int .i64 ((0 : Nat) : Int))), (8, .pv (.int .i64 ((0 : Nat) : Int)))])) (And.intro (reflH (renN []) ([(1, 0, .ls 0 l.length), (0, 0, rowP l), (2, 0, .pv (.int .i64 p.id)), (2, 1, .pv (.int .i64 p.a)), (2, 2, .pv (.int .i64 p.b)), (3, 0, .pv (.int .i64 tn)), (3, 1, .pv (.int .i64 td))])) (And.intro r0 True.intro))) (by kernel_rfl)

set_option maxRecDepth 100000 in
theorem od_next {l : List Pt} {g : List Int} {k n : Nat} {p : Pt} {tn td : Int} (hk : l[k]? = some p) (hin : 0 ≤ (k : Int) ∧ (k : Int) < (l.length : Int)) (hg : n < g.length) (hn : 0 ≤ (n : Int) ∧ (n : Int) < (l.length : Int)) (hlt : decide ((k : Int) < (l.length : Int)) = true) (hr : FnL Try.prog 50 1 [fldS 0 l, .pv (ptV p), .pv (ratioV tn td)] [(0, 0, rowP l)] (.pv (.int .i64 ((n : Int)))) 0 []) (hs : Value.int .i64 (IntKind.i64.wrap ((k : Int) + 1)) = .int .i64 (((k + 1 : Nat) : Int))) {e : Exit} {tm2 : List (Nat × SV)} {hp2 : List (Nat × Nat × SV)}
    (r : RunsL Try.prog 1 1 (loopOf Try.prog 49 0) 35 4 ([(2, .pp 1 0), (3, .pp 2 0), (5, .ls 3 l.length), (6, .pv (.int .i64 ((k + 1 : Nat) : Int)))]) ([(1, 0, .ls 0 l.length), (0, 0, rowP l), (2, 0, .pv (.int .i64 tn)), (2, 1, .pv (.int .i64 td)), (3, 0, .row 3 1 l.length (idsV (g.set n p.id)))]) e tm2 hp2) : RunsL Try.prog 1 1 (loopOf Try.prog 49 0) 35 4 ([(2, .pp 1 0), (3, .pp 2 0), (5, .ls 3 l.length), (6, .pv (.int .i64 (k : Int)))]) ([(1, 0, .ls 0 l.length), (0, 0, rowP l), (2, 0, .pv (.int .i64 tn)), (2, 1, .pv (.int .i64 td)), (3, 0, .row 3 1 l.length (idsV g))]) e tm2 hp2 :=
  RunsL.next [] 300 [.t true, .r (ptV p), .f [0] [fldS 0 l, .pv (ptV p), .pv (ratioV tn td)] [(0, 0, rowP l)] (.pv (.int .i64 ((n : Int)))) 0 [], .r (Value.int .i64 p.id), .w (idsV (g.set n p.id)), .r (.int .i64 (((k + 1 : Nat) : Int)))]
    (round_of (And.intro hlt (And.intro hin (And.intro (ra_pt hk) (And.intro hr (And.intro (Eq.refl (List.map (SV.ren (renU [0] 4)) [fldS 0 l, .pv (ptV p), .pv (ratioV tn td)])) (And.intro (reflH (renU [0] 4) [(0, 0, rowP l)]) (And.intro hin (And.intro (ra_id hk) (And.intro hn (And.intro (seti_row g n p.id hg) (And.intro (seti_in g n hg) (And.intro hs True.intro)))))))))))) (by kernel_rfl)) r

set_option maxRecDepth 100000 in
theorem od_end {l : List Pt} {g : List Int} {k : Nat} {tn td : Int} (hge : decide ((k : Int) < (l.length : Int)) = false) : RunsL Try.prog 1 1 (loopOf Try.prog 49 0) 35 4 ([(2, .pp 1 0), (3, .pp 2 0), (5, .ls 3 l.length), (6, .pv (.int .i64 (k : Int)))]) ([(1, 0, .ls 0 l.length), (0, 0, rowP l), (2, 0, .pv (.int .i64 tn)), (2, 1, .pv (.int .i64 td)), (3, 0, .row 3 1 l.length (idsV g))]) (.exit 0) ([(5, .ls 3 l.length)]) ([(1, 0, .ls 0 l.length), (0, 0, rowP l), (2, 0, .pv (.int .i64 tn)), (2, 1, .pv (.int .i64 td)), (3, 0, .row 3 1 l.length (idsV g))]) :=
  RunsL.stop [] 300 [.t false] (fun h => by cases h)
    (round_of (And.intro hge True.intro) (by kernel_rfl))

set_option maxRecDepth 100000 in
theorem od_path {l : List Pt} {g : List Int} {tn td : Int} (hn0 : 0 ≤ (l.length : Int)) (hn1 : (l.length : Int) ≤ 1000000) (r0 : RunsL Try.prog 1 1 (loopOf Try.prog 49 0) 35 4 ([(2, .pp 1 0), (3, .pp 2 0), (5, .ls 3 l.length), (6, .pv (.int .i64 ((0 : Nat) : Int)))]) ([(1, 0, .ls 0 l.length), (0, 0, rowP l), (2, 0, .pv (.int .i64 tn)), (2, 1, .pv (.int .i64 td)), (3, 0, .row 3 1 l.length (idsV (List.replicate l.length (0 : Int))))]) (.exit 0) ([(5, .ls 3 l.length)]) ([(1, 0, .ls 0 l.length), (0, 0, rowP l), (2, 0, .pv (.int .i64 tn)), (2, 1, .pv (.int .i64 td)), (3, 0, .row 3 1 l.length (idsV g))])) :
    FnL Try.prog 49 1 [fldS 0 l, .pv (ratioV tn td)] [(0, 0, rowP l)] (.ls 1 l.length) 1 [(1, 0, .row 3 1 l.length (idsV g))] :=
  fnl_run 300 [(1, 3)] [.l (.exit 0) ([(2, .pp 1 0), (3, .pp 2 0), (5, .ls 3 l.length), (6, .pv (.int .i64 ((0 : Nat) : Int)))]) ([(1, 0, .ls 0 l.length), (0, 0, rowP l), (2, 0, .pv (.int .i64 tn)), (2, 1, .pv (.int .i64 td)), (3, 0, .row 3 1 l.length (idsV (List.replicate l.length (0 : Int))))]) ([(5, .ls 3 l.length)]) ([(1, 0, .ls 0 l.length), (0, 0, rowP l), (2, 0, .pv (.int .i64 tn)), (2, 1, .pv (.int .i64 td)), (3, 0, .row 3 1 l.length (idsV g))])]
     (reflH (renN [(1, 3)]) [(1, 0, .row 3 1 l.length (idsV g))]) (And.intro hn0 (And.intro (Eq.refl (l.length : Int)) (And.intro hn1 (And.intro (reflT (renN []) ([(2, .pp 1 0), (3, .pp 2 0), (5, .ls 3 l.length), (6, .pv (.int .i64 ((0 : Nat) : Int)))])) (And.intro (And.intro (Eq.refl (some (SV.ls 0 l.length))) (And.intro (Eq.refl (some (rowP l))) (And.intro (Eq.refl (some (SV.pv (.int .i64 tn)))) (And.intro (Eq.refl (some (SV.pv (.int .i64 td)))) (And.intro (rep_row l.length) True.intro))))) (And.intro r0 True.intro)))))) (by kernel_rfl)

set_option maxRecDepth 100000 in
theorem rlead_err {l : List Pt} {tn td : Int} {e : Int} (hc : FnL Try.prog 48 1 [fldS 0 l, .pv (ratioV tn td)] [(0, 0, rowP l)] (.pv (.int .i64 (e))) 0 []) (he : (e != 0) = true) :
    FnL Try.prog 30 1 [fldS 0 l, .pv (ratioV tn td)] [(0, 0, rowP l)] (.pv (.tuple #[.int .i64 (0), .int .i64 (e)])) 0 [] :=
  fnl_run 300 [] [.f [0] [fldS 0 l, .pv (ratioV tn td)] [(0, 0, rowP l)] (.pv (.int .i64 (e))) 0 [], .t true]
     True.intro (And.intro hc (And.intro (Eq.refl (List.map (SV.ren (renU [0] 3)) [fldS 0 l, .pv (ratioV tn td)])) (And.intro (reflH (renU [0] 3) [(0, 0, rowP l)]) (And.intro he True.intro)))) (by kernel_rfl)

set_option maxRecDepth 100000 in
theorem rlead_no {l : List Pt} {tn td : Int} (hc : FnL Try.prog 48 1 [fldS 0 l, .pv (ratioV tn td)] [(0, 0, rowP l)] (.pv (.int .i64 (0))) 0 []) (h0 : ((l.length : Int) == 0) = true) :
    FnL Try.prog 30 1 [fldS 0 l, .pv (ratioV tn td)] [(0, 0, rowP l)] (.pv (.tuple #[.int .i64 (0), .int .i64 (42)])) 0 [] :=
  fnl_run 300 [] [.f [0] [fldS 0 l, .pv (ratioV tn td)] [(0, 0, rowP l)] (.pv (.int .i64 (0))) 0 [], .k, .t true]
     True.intro (And.intro hc (And.intro (Eq.refl (List.map (SV.ren (renU [0] 3)) [fldS 0 l, .pv (ratioV tn td)])) (And.intro (reflH (renU [0] 3) [(0, 0, rowP l)]) (And.intro h0 True.intro)))) (by kernel_rfl)

set_option maxRecDepth 100000 in
theorem rlead_yes {l : List Pt} {g : List Int} {y : Int} {tn td : Int} (hc : FnL Try.prog 48 1 [fldS 0 l, .pv (ratioV tn td)] [(0, 0, rowP l)] (.pv (.int .i64 (0))) 0 []) (h0 : ((l.length : Int) == 0) = false) (ho : FnL Try.prog 49 1 [fldS 0 l, .pv (ratioV tn td)] [(0, 0, rowP l)] (.ls 1 l.length) 1 [(1, 0, .row 3 1 l.length (idsV g))]) (hy : g[0]? = some y) (hin : 0 ≤ (0 : Int) ∧ (0 : Int) < (l.length : Int)) :
    FnL Try.prog 30 1 [fldS 0 l, .pv (ratioV tn td)] [(0, 0, rowP l)] (.pv (.tuple #[.int .i64 (y), .int .i64 (0)])) 0 [] :=
  fnl_run 300 [] [.f [0] [fldS 0 l, .pv (ratioV tn td)] [(0, 0, rowP l)] (.pv (.int .i64 (0))) 0 [], .k, .t false, .f [0] [fldS 0 l, .pv (ratioV tn td)] [(0, 0, rowP l)] (.ls 1 l.length) 1 [(1, 0, .row 3 1 l.length (idsV g))], .r (Value.int .i64 y)]
     True.intro (And.intro hc (And.intro (Eq.refl (List.map (SV.ren (renU [0] 3)) [fldS 0 l, .pv (ratioV tn td)])) (And.intro (reflH (renU [0] 3) [(0, 0, rowP l)]) (And.intro h0 (And.intro ho (And.intro (Eq.refl (List.map (SV.ren (renU [0] 3)) [fldS 0 l, .pv (ratioV tn td)])) (And.intro (reflH (renU [0] 3) [(0, 0, rowP l)]) (And.intro hin (And.intro (ra_int hy) True.intro))))))))) (by kernel_rfl)

set_option maxRecDepth 100000 in
theorem rord_err {l : List Pt} {tn td : Int} {e : Int} (hc : FnL Try.prog 48 1 [fldS 0 l, .pv (ratioV tn td)] [(0, 0, rowP l)] (.pv (.int .i64 (e))) 0 []) (he : (e != 0) = true) :
    FnL Try.prog 31 1 [fldS 0 l, .pv (ratioV tn td)] [(0, 0, rowP l)] (.pv (.tuple #[.slice none 0 0, .int .i64 (e)])) 0 [] :=
  fnl_run 300 [] [.f [0] [fldS 0 l, .pv (ratioV tn td)] [(0, 0, rowP l)] (.pv (.int .i64 (e))) 0 [], .t true]
     True.intro (And.intro hc (And.intro (Eq.refl (List.map (SV.ren (renU [0] 3)) [fldS 0 l, .pv (ratioV tn td)])) (And.intro (reflH (renU [0] 3) [(0, 0, rowP l)]) (And.intro he True.intro)))) (by kernel_rfl)

set_option maxRecDepth 100000 in
theorem rord_yes {l : List Pt} {g : List Int} {tn td : Int} (hc : FnL Try.prog 48 1 [fldS 0 l, .pv (ratioV tn td)] [(0, 0, rowP l)] (.pv (.int .i64 (0))) 0 []) (ho : FnL Try.prog 49 1 [fldS 0 l, .pv (ratioV tn td)] [(0, 0, rowP l)] (.ls 1 l.length) 1 [(1, 0, .row 3 1 l.length (idsV g))]) :
    FnL Try.prog 31 1 [fldS 0 l, .pv (ratioV tn td)] [(0, 0, rowP l)] (.tu [.one (.ls 1 l.length), .one (.pv (.int .i64 0))]) 1 [(1, 0, .row 3 1 l.length (idsV g))] :=
  fnl_run 300 [(1, 3)] [.f [0] [fldS 0 l, .pv (ratioV tn td)] [(0, 0, rowP l)] (.pv (.int .i64 (0))) 0 [], .k, .f [0] [fldS 0 l, .pv (ratioV tn td)] [(0, 0, rowP l)] (.ls 1 l.length) 1 [(1, 0, .row 3 1 l.length (idsV g))]]
     (reflH (renN [(1, 3)]) [(1, 0, .row 3 1 l.length (idsV g))]) (And.intro hc (And.intro (Eq.refl (List.map (SV.ren (renU [0] 3)) [fldS 0 l, .pv (ratioV tn td)])) (And.intro (reflH (renU [0] 3) [(0, 0, rowP l)]) (And.intro ho (And.intro (Eq.refl (List.map (SV.ren (renU [0] 3)) [fldS 0 l, .pv (ratioV tn td)])) (And.intro (reflH (renU [0] 3) [(0, 0, rowP l)]) True.intro)))))) (by kernel_rfl)

set_option maxRecDepth 100000 in
theorem rrank_err {l : List Pt} {e : Int} {tn td : Int} {id : Int} (hc : FnL Try.prog 48 1 [fldS 0 l, .pv (ratioV tn td)] [(0, 0, rowP l)] (.pv (.int .i64 (e))) 0 []) (he : (e != 0) = true) :
    FnL Try.prog 32 1 [fldS 0 l, .pv (.int .i64 (id)), .pv (ratioV tn td)] [(0, 0, rowP l)] (.pv (.tuple #[.int .i64 (0), .int .i64 (e)])) 0 [] :=
  fnl_run 300 [] [.f [0] [fldS 0 l, .pv (ratioV tn td)] [(0, 0, rowP l)] (.pv (.int .i64 (e))) 0 [], .t true]
     True.intro (And.intro hc (And.intro (Eq.refl (List.map (SV.ren (renU [0] 3)) [fldS 0 l, .pv (ratioV tn td)])) (And.intro (reflH (renU [0] 3) [(0, 0, rowP l)]) (And.intro he True.intro)))) (by kernel_rfl)

set_option maxRecDepth 100000 in
theorem rrank_no {l : List Pt} {tn td : Int} {id : Int} (hc : FnL Try.prog 48 1 [fldS 0 l, .pv (ratioV tn td)] [(0, 0, rowP l)] (.pv (.int .i64 (0))) 0 []) (ha : FnL Try.prog 46 1 [fldS 0 l, .pv (.int .i64 (id))] [(0, 0, rowP l)] (.pv (.int .i64 (-1))) 0 []) :
    FnL Try.prog 32 1 [fldS 0 l, .pv (.int .i64 (id)), .pv (ratioV tn td)] [(0, 0, rowP l)] (.pv (.tuple #[.int .i64 (0), .int .i64 (6)])) 0 [] :=
  fnl_run 300 [] [.f [0] [fldS 0 l, .pv (ratioV tn td)] [(0, 0, rowP l)] (.pv (.int .i64 (0))) 0 [], .k, .f [0] [fldS 0 l, .pv (.int .i64 (id))] [(0, 0, rowP l)] (.pv (.int .i64 (-1))) 0 [], .k]
     True.intro (And.intro hc (And.intro (Eq.refl (List.map (SV.ren (renU [0] 3)) [fldS 0 l, .pv (ratioV tn td)])) (And.intro (reflH (renU [0] 3) [(0, 0, rowP l)]) (And.intro ha (And.intro (Eq.refl (List.map (SV.ren (renU [0] 3)) [fldS 0 l, .pv (.int .i64 (id))])) (And.intro (reflH (renU [0] 3) [(0, 0, rowP l)]) True.intro)))))) (by kernel_rfl)

set_option maxRecDepth 100000 in
theorem rrank_yes {l : List Pt} {k n : Nat} {p : Pt} {tn td : Int} {id : Int} (hk : l[k]? = some p) (hin : 0 ≤ (k : Int) ∧ (k : Int) < (l.length : Int)) (hc : FnL Try.prog 48 1 [fldS 0 l, .pv (ratioV tn td)] [(0, 0, rowP l)] (.pv (.int .i64 (0))) 0 []) (ha : FnL Try.prog 46 1 [fldS 0 l, .pv (.int .i64 (id))] [(0, 0, rowP l)] (.pv (.int .i64 ((k : Int)))) 0 []) (h0 : decide ((k : Int) < 0) = false) (hr : FnL Try.prog 50 1 [fldS 0 l, .pv (ptV p), .pv (ratioV tn td)] [(0, 0, rowP l)] (.pv (.int .i64 ((n : Int)))) 0 []) :
    FnL Try.prog 32 1 [fldS 0 l, .pv (.int .i64 (id)), .pv (ratioV tn td)] [(0, 0, rowP l)] (.pv (.tuple #[.int .i64 ((n : Int)), .int .i64 (0)])) 0 [] :=
  fnl_run 300 [] [.f [0] [fldS 0 l, .pv (ratioV tn td)] [(0, 0, rowP l)] (.pv (.int .i64 (0))) 0 [], .k, .f [0] [fldS 0 l, .pv (.int .i64 (id))] [(0, 0, rowP l)] (.pv (.int .i64 ((k : Int)))) 0 [], .t false, .r (ptV p), .f [0] [fldS 0 l, .pv (ptV p), .pv (ratioV tn td)] [(0, 0, rowP l)] (.pv (.int .i64 ((n : Int)))) 0 []]
     True.intro (And.intro hc (And.intro (Eq.refl (List.map (SV.ren (renU [0] 3)) [fldS 0 l, .pv (ratioV tn td)])) (And.intro (reflH (renU [0] 3) [(0, 0, rowP l)]) (And.intro ha (And.intro (Eq.refl (List.map (SV.ren (renU [0] 3)) [fldS 0 l, .pv (.int .i64 (id))])) (And.intro (reflH (renU [0] 3) [(0, 0, rowP l)]) (And.intro h0 (And.intro hin (And.intro (ra_pt hk) (And.intro hr (And.intro (Eq.refl (List.map (SV.ren (renU [0] 3)) [fldS 0 l, .pv (ptV p), .pv (ratioV tn td)])) (And.intro (reflH (renU [0] 3) [(0, 0, rowP l)]) True.intro)))))))))))) (by kernel_rfl)

end Go.Proofs.Ytjnoheffodnobaa
